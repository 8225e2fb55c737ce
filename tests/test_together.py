"""What has to hold between the calls, over many schemas and rows that are drawn from a fixed seed."""

import random
import unittest

from tests.helper import BRIDGE, ask, begin, is_row, is_schema, origin, put, read, row, signs, step, straight, text_of
from tests.helper import through, why

LEAVES = ["b", "i2", "i3", "i5", "t1", "t2", "t3"]


class Draw:
    def __init__(self, seed):
        self.random = random.Random(seed)

    def literal(self, kind):
        if kind == "b":
            return self.random.choice(["0", "1"])
        size = int(kind[1:])
        if kind[0] == "i":
            half = 2 ** (size - 1)
            return str(self.random.choice([-half, -1, 0, 1, half - 1]))
        byte = ["a", "b", "\\00", "\\22", "\\ff", " ", "\\5c"]
        return '"' + "".join(self.random.choice(byte) for k in range(self.random.randint(0, size))) + '"'

    def kind(self, depth):
        """A leaf kind's text, or a group: its sign and its fields."""
        chance = self.random.random()
        if depth >= 4 or chance < 0.5:
            return self.random.choice(LEAVES)
        if chance < 0.8:
            return ("{", self.fields("{", depth + 1))
        return ("<", self.fields("<", depth + 1))

    def fields(self, sign, depth):
        numbers = sorted(self.random.sample(range(1, 5), self.random.randint(1, 3)))
        return [self.field(number, sign, depth) for number in numbers]

    def field(self, number, sign, depth):
        kind = self.kind(depth)
        mode = "!"
        if sign == "{":
            mode = self.random.choice("!!?*%")
        if mode == "%" and not has_key(kind):
            mode = "*"
        default = None
        if sign == "{" and mode == "!" and isinstance(kind, str) and self.random.random() < 0.6:
            default = self.literal(kind)
        return (number, "f" + str(number), mode, kind, default)

    def changed(self, kind, depth=1):
        """Much the same kind, with a few fields drawn anew, taken out or put in."""
        if isinstance(kind, str):
            return self.random.choice(LEAVES) if self.random.random() < 0.2 else kind
        sign, fields = kind
        by_number = {}
        for number, name, mode, inner, default in fields:
            chance = self.random.random()
            if chance < 0.1:
                by_number[number] = self.field(number, sign, depth)
            elif chance < 0.8:
                by_number[number] = self.kept(number, mode, self.changed(inner, depth + 1), sign)
        if not by_number or self.random.random() < 0.2:
            number = self.random.randint(1, 5)
            by_number[number] = self.field(number, sign, depth)
        return (sign, [by_number[number] for number in sorted(by_number)])

    def kept(self, number, mode, kind, sign):
        if sign == "{" and self.random.random() < 0.2:
            mode = self.random.choice("!?*%")
        if mode == "%" and not has_key(kind):
            mode = "*"
        return (number, "g" + str(number), mode, kind, None)

    def grown(self, kind, depth=1):
        """A kind that often may come next: fields taken out, put in, widened, given other defaults."""
        if isinstance(kind, str):
            return kind if kind == "b" else kind[0] + str(int(kind[1:]) + self.random.randint(0, 1))
        sign, fields = kind
        by_number = {}
        for number, name, mode, inner, default in fields:
            if sign == "<" or self.random.random() < 0.85:
                by_number[number] = self.grown_field(number, mode, self.grown(inner, depth + 1), default)
        number = self.random.randint(1, 5)
        if number not in by_number and (not by_number or self.random.random() < 0.6):
            by_number[number] = self.field(number, sign, depth)
        if not by_number:
            return kind
        return (sign, [by_number[number] for number in sorted(by_number)])

    def grown_field(self, number, mode, kind, default):
        if mode == "%" and not has_key(kind):
            mode = "*"
        if default is not None and self.random.random() < 0.3:
            default = self.literal(kind)
        return (number, self.random.choice("fgh") + str(number), mode, kind, default)

    def chain(self):
        """Schemas that may stand in one chain."""
        schemas = [("{", self.fields("{", 1))]
        for k in range(20):
            following = self.grown(schemas[-1])
            if ask(begin(written(schemas[-1])), step(written(following)))[1] == [1]:
                schemas.append(following)
        return schemas[:6]

    def value(self, kind):
        if isinstance(kind, str):
            return self.literal(kind)
        sign, fields = kind
        if sign == "<":
            number, name, mode, inner, default = self.random.choice(fields)
            return "<" + name + ":" + self.value(inner) + ">"
        written = []
        for number, name, mode, inner, default in fields:
            occurrences = self.occurrences(mode, inner)
            if occurrences:
                written.append(name + ":" + ",".join(occurrences))
        return "{" + ";".join(written) + "}"

    def occurrences(self, mode, kind):
        many = {"!": 1, "?": self.random.randint(0, 1)}.get(mode, self.random.randint(0, 3))
        # Keys that are drawn seldom rise: one occurrence is enough here.
        return [self.value(kind) for k in range(min(many, 1) if mode == "%" else many)]


def has_key(kind):
    return not isinstance(kind, str) and kind[0] == "{" and kind[1][0][2] == "!" and isinstance(kind[1][0][3], str)


def written(kind):
    if isinstance(kind, str):
        return kind
    sign, fields = kind
    texts = []
    for number, name, mode, inner, default in fields:
        texts.append(f"{number}{name}{mode}{written(inner)}" + ("" if default is None else "=" + default))
    return sign + ";".join(texts) + ("}" if sign == "{" else ">")


class Ways(unittest.TestCase):
    def test_through_row_read_and_straight(self):
        draw = Draw(4)
        seen = {}
        for k in range(150):
            schemas = draw.chain()
            far = len(schemas) - 1
            text = draw.value(schemas[0])
            calls = [begin(written(schemas[0])), put(text)] + [step(written(schema)) for schema in schemas[1:]]
            calls += [row(0), through(0, far, text), origin(0), straight(0, far), read(0, far, text)]
            split = ask(*calls)[-5:]
            self.assertEqual(split[:3], [self.step_by_step(schemas, text)] * 2 + [[0, len(text)] + signs(text)], calls)
            what = (split[3], split[4] == split[1])
            seen[str(what)] = seen.get(str(what), 0) + 1
            self.assertNotEqual(what, ([1], False), (schemas, text))
        self.assertGreater(seen[str(([1], True))], 10)
        self.assertGreater(seen[str(([0], False))], 10)

    def step_by_step(self, schemas, text):
        """What row and through answer, read from each version to the next with a chain of these two alone."""
        answer = [len(text)] + signs(text)
        for old, new in zip(schemas, schemas[1:]):
            answer = ask(begin(written(old)), step(written(new)), read(0, 1, answer[1:]))[2]
        return answer


class Together(unittest.TestCase):
    def test_rows_are_read_by_their_own_schema_as_they_are(self):
        draw = Draw(1)
        for k in range(300):
            root = ("{", draw.fields("{", 1))
            self.assertTrue(is_schema(written(root)), written(root))
            row = draw.value(root)
            self.assertTrue(is_row(written(root), row), (written(root), row))

    def test_no_obstacle_just_if_no_row_goes_wrong(self):
        draw = Draw(2)
        counts = {}
        for k in range(1500):
            inner = ("{", draw.fields("{", 2))
            old = ("{", [(1, "top", "*", inner, None)])
            new = ("{", [(1, "top", "*", draw.changed(inner, 2), None)])
            split = ask(begin(written(old)), why(written(new)), step(BRIDGE), step(written(new)))
            number = split[1][0]
            counts[number] = counts.get(number, 0) + 1
            self.assertEqual(split[3], [2], written(new))
            self.look_at_rows(draw, old, new, split[1])
        self.assertEqual(sorted(counts), [0, 1, 2, 3, 4, 5, 6, 7])

    def look_at_rows(self, draw, old, new, found):
        chain = [begin(written(old)), step(BRIDGE), step(written(new))]
        if found[0] == 0:
            for k in range(3):
                row = draw.value(old)
                split = ask(*chain, read(0, 2, row))
                self.assertNotIn(split[3], ([-1], [-6]), (written(old), written(new), row))
                # What was read is a row of the new schema.
                if split[3][0] <= 4000:
                    self.assertEqual(ask(*chain, read(2, 2, split[3][1:]))[3], split[3])
        else:
            row = found[3 + found[1]:]
            self.assertEqual(found[2 + found[1]], len(row))
            split = ask(*chain, read(0, 0, row), read(0, 2, row))
            self.assertEqual(split[3:], [[len(row)] + row, [-6]], (written(old), written(new), bytes(row)))

    def test_changed_texts_are_refused_or_stay_as_they_are(self):
        draw = Draw(3)
        for k in range(300):
            root = ("{", draw.fields("{", 1))
            row = signs(draw.value(root))
            for again in range(10):
                place = draw.random.randrange(len(row))
                other = list(row)
                other[place:place + draw.random.randint(0, 1)] = signs(draw.random.choice(['"', "\\", "0", "-", "{", "}",
                                                                       "<", ">", ":", ";", ",", "a", "f1", "\\00", ""]))
                answer = text_of(ask(begin(written(root)), read(0, 0, other))[1])
                if answer != -1:
                    self.assertEqual(signs(answer), other)


if __name__ == "__main__":
    unittest.main()
