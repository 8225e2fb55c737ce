"""Promises 3, 4 and 7: the first obstacle, its place and its row."""

import unittest

from tests.helper import BRIDGE, ask, begin, compare, last, read, step, text_of, told, why

FAR = 10 ** 18

# Old schema, new schema, the obstacle's number, its path, its row.
FOUND = [
    # The document's own examples.
    ("{1a!i16;2b*{1x!b}}", "{1a!i8;2b?{1x!b}}", 2, [1], "{a:128}"),
    ("{1a!i16;2b*{1x!b}}", "{1a!i32;2b?{1x!b}}", 6, [2], "{a:0;b:{x:0},{x:0}}"),
    ("{1a!i16;2b*{1x!b}}", "{1a!i32;2b*{1x!b;3y!t4}}", 4, [2, 3], "{a:0;b:{x:0}}"),
    # 1: leaf kinds that aren't alike, and kinds of other shapes.
    ("{1a!i8}", "{1a!b}", 1, [1], "{a:0}"),
    ("{1a!i8}", "{1a!t8}", 1, [1], "{a:0}"),
    ("{1a!b}", "{1a!t8}", 1, [1], "{a:0}"),
    ("{1a!t8}", "{1a!b}", 1, [1], '{a:""}'),
    ("{1a!t8}", "{1a!i64}", 1, [1], '{a:""}'),
    ("{1a?t8}", "{1a?i64}", 1, [1], '{a:""}'),
    ("{1a*i2}", "{1a*t2}", 1, [1], "{a:0}"),
    ("{1a!i8}", "{1a!{1x!i8}}", 1, [1], "{a:0}"),
    ("{1a!i8}", "{1a!<1x!i8>}", 1, [1], "{a:0}"),
    ("{1a!{1x!i8;2y?b}}", "{1a!i8}", 1, [1], "{a:{x:0}}"),
    ("{1a!<2x!t3;5y!b>}", "{1a!t8}", 1, [1], '{a:<x:"">}'),
    ("{1a!{1x!i8}}", "{1a!<1x!i8>}", 1, [1], "{a:{x:0}}"),
    ("{1a!<1x!i8>}", "{1a!{1x!i8}}", 1, [1], "{a:<x:0>}"),
    ("{1a?{1x?i8}}", "{1a?<1x!i8>}", 1, [1], "{a:{}}"),
    ("{1a%{1k!t4;2v?i8}}", "{1a%{1k!t4;2v?b}}", 1, [1, 2], '{a:{k:"";v:0}}'),
    ("{1a%{1k!t4}}", "{1a%{1k!i4}}", 1, [1, 1], '{a:{k:""}}'),
    ("{1a%{1k!i4}}", "{1a*b}", 1, [1], "{a:{k:0}}"),
    # 2: narrower.
    ("{1a!i64}", "{1a!i63}", 2, [1], "{a:4611686018427387904}"),
    ("{1a!i3}", "{1a!i2}", 2, [1], "{a:2}"),
    ("{1a!i64}", "{1a!i2}", 2, [1], "{a:2}"),
    ("{1a!t2}", "{1a!t1}", 2, [1], '{a:"aa"}'),
    ("{1a!t999}", "{1a!t998}", 2, [1], '{a:"' + "a" * 999 + '"}'),
    ("{1a?t5;2b!b}", "{1a?t3;2b!b}", 2, [1], '{a:"aaaa";b:0}'),
    ("{1a*i8;2b!b}", "{1a*i7;2b!b}", 2, [1], "{a:64;b:0}"),
    ("{1a%{1k!i8;2v!b}}", "{1a%{1k!i7;2v!b}}", 2, [1, 1], "{a:{k:64;v:0}}"),
    ("{1a!<1x!b;2y!i9>}", "{1a!<1x!b;2y!i8>}", 2, [1, 2], "{a:<y:128>}"),
    # 3: gone.
    ("{1a!<1x!b;2y!t3;3z!b>}", "{1a!<1x!b>}", 3, [1, 2], '{a:<y:"">}'),
    ("{1a!<1x!b;2y!t3;3z!b>}", "{1a!<2y!t3;3z!b>}", 3, [1, 1], "{a:<x:0>}"),
    ("{1a?<1x!b;2y!{1z!b;2w*b}>}", "{1a?<1x!b;3y!{1z!b;2w*b}>}", 3, [1, 2], "{a:<y:{z:0}>}"),
    ("{1a*<1x!b;2y!<4z!i5;5w!b>>}", "{1a*<1x!b>}", 3, [1, 2], "{a:<y:<z:0>>}"),
    ("{1a!<1x!i9;2y!b>}", "{1a!<1x!i8>}", 3, [1, 2], "{a:<y:0>}"),
    # 4: unfilled.
    ("{1a!b}", "{1a!b;2b!b}", 4, [2], "{a:0}"),
    ("{2b!b}", "{1a!t9;2b!b}", 4, [1], "{b:0}"),
    ("{1a?b}", "{2a?b;3b!b}", 4, [3], "{}"),
    ("{1a!b}", "{1a!b;2c!<1x!b>}", 4, [2], "{a:0}"),
    ("{1a!b}", "{1a!b;2c!<1x!{1y!b=0}>}", 4, [2], "{a:0}"),
    ("{1a!b}", "{1a!b;2r!{1x!b=0;2y!b}}", 4, [2], "{a:0}"),
    ("{1a!b}", "{1a!b;2r!{1x!{1y!b}}}", 4, [2], "{a:0}"),
    ("{1a!b}", "{1a!b;2r!{1x!<1y!b>}}", 4, [2], "{a:0}"),
    # 5: may be missing.
    ("{1a?b}", "{1a!b}", 5, [1], "{}"),
    ("{1a*b}", "{1a!b}", 5, [1], "{}"),
    ("{1a%{1k!b}}", "{1a!{1k!b}}", 5, [1], "{}"),
    ("{1a?b;2b!b}", "{1a!b=1;2b!b}", 5, [1], "{b:0}"),
    ("{1a?b}", "{1a!t5}", 5, [1], "{}"),
    # 6: may be many.
    ("{1a*t4}", "{1a?t4}", 6, [1], '{a:"",""}'),
    ("{1a*b}", "{1a?t4}", 6, [1], "{a:0,0}"),
    ("{1a*<3x!b;5y!b>}", "{1a?<3x!b;5y!b>}", 6, [1], "{a:<x:0>,<x:0>}"),
    ("{1a*{1x?b}}", "{1a?{1x?b}}", 6, [1], "{a:{},{}}"),
    ("{1a%{1k!i2}}", "{1a?{1k!i2}}", 6, [1], "{a:{k:0},{k:1}}"),
    ("{1a%{1k!b;2v!t3}}", "{1a?{1k!b;2v!t3}}", 6, [1], '{a:{k:0;v:""},{k:1;v:""}}'),
    ("{1a%{1k!t1;2v?t3}}", "{1a?{1k!t1}}", 6, [1], '{a:{k:""},{k:"a"}}'),
    # 7: keys.
    ("{1a*{1k!b}}", "{1a%{1k!b}}", 7, [1], "{a:{k:0},{k:0}}"),
    ("{1a*i8}", "{1a%{1k!b}}", 7, [1], "{a:0,0}"),
    ("{1a%{1k!t4;2l!b}}", "{1a%{2l!b;3k!b}}", 7, [1], '{a:{k:"";l:0},{k:"a";l:0}}'),
    ("{1a%{2k!i8}}", "{1a%{1j!b=0;2k!i8}}", 7, [1], "{a:{k:0},{k:1}}"),
    ("{1a%{1k!b;2l!i5}}", "{1a%{2l!i5}}", 7, [1], "{a:{k:0;l:0},{k:1;l:0}}"),
]

# Schemas of which the new one has no obstacle against the old one.
NONE_FOUND = [
    ("{1a!i16;2b*{1x!b}}", '{1a!i32;2b*{1x!b;3y!t4="q"}}'),
    ("{1a!b}", "{1a!b}"),
    ("{1a!b}", "{1other!b}"),
    ("{1a!b}", "{1a!i2}"),
    ("{1a!i8}", "{1a!i8}"),
    ("{1a!i8}", "{1a!i64}"),
    ("{1a!t8}", "{1a!t9}"),
    ("{1a!b}", "{1a?b}"),
    ("{1a!b}", "{1a*b}"),
    ("{1a?b}", "{1a*b}"),
    ("{1a!{1k!b}}", "{1a%{1k!b}}"),
    ("{1a?{1k!b}}", "{1a%{1k!b}}"),
    ("{1a!{1k!b}}", "{1a%{2j!b=0}}"),
    ("{1a%{1k!b}}", "{1a*{1k!b}}"),
    ("{1a%{1k!b;2v!b}}", "{1a%{1key!i4;3v?b}}"),
    ("{1a!b;2b!t4}", "{2b!t4}"),
    ("{1a!b}", "{2b?b}"),
    ("{1a!b}", "{2b*<1x!b>;3c%{1k!b};4d?{1x!b}}"),
    ("{1a!b}", "{2b!b=1}"),
    ("{1a!b}", "{2r!{1x!b=1;2y?b;3z*<1w!b>;4q!{1v!i4=-3}}}"),
    ("{1a!b}", "{2r!{1x?b}}"),
    ("{1a!<1x!b>}", "{1a!<1x!b;2y!b>}"),
    ("{1a!<2x!b>}", "{1a?<1y!t3;2x!i8>}"),
    ("{1a!{1x!b;2y!b}}", "{1a!{2y!b}}"),
]

# Around both schemas, around the path, around the row: so obstacles are found within groups too.
# What is wrapped stands where the @ is.
WRAPPINGS = [
    ("{@}", [], "@"),
    ("{1p!b;4g!{@};5q!t3}", [4], '{p:0;g:@;q:""}'),
    ("{1p?b;4g?{@};5q!<7s!b>}", [4], "{g:@;q:<s:0>}"),
    ("{2c!<1x!b;2y!{@}>;3z!b}", [2, 2], "{c:<y:@>;z:0}"),
]

# Here no field is needed at the top, so any two schemas can stand in one chain, a version between them.
LOOSE_WRAPPINGS = [
    ("{4g*{@};5q*b}", [4], "{g:@}"),
    ("{4g?{@};5q?b}", [4], "{g:@}"),
    ("{2c*<1x!b;2y!<6w!{@}>>;3z?b}", [2, 2, 6], "{c:<y:<w:@>>}"),
    ("{3m%{1k!t2;2v?{1o!b;2g!{@}}}}", [3, 2, 2], '{m:{k:"";v:{o:0;g:@}}}'),
]


def wrapped(outer, record):
    return outer.replace("@", record[1:-1])


def found_within(wrappings):
    cases = []
    for old, new, number, path, row in FOUND:
        for outer, above, around in wrappings:
            case = (wrapped(outer, old), wrapped(outer, new), number, above + path, around.replace("@", row))
            cases.append(case)
    return cases


class EachObstacle(unittest.TestCase):
    def test_all_seven_are_there(self):
        self.assertEqual(sorted({number for old, new, number, path, row in FOUND}), [1, 2, 3, 4, 5, 6, 7])

    def test_why_and_step(self):
        for old, new, number, path, row in found_within(WRAPPINGS + LOOSE_WRAPPINGS):
            with self.subTest(old=old, new=new):
                self.assertEqual(ask(begin(old), why(new), step(new), [3]),
                                 [[0], told(number, path, row), [-10 - number], [1]])

    def test_compare(self):
        for old, new, number, path, row in found_within(LOOSE_WRAPPINGS):
            with self.subTest(old=old, new=new):
                split = ask(begin(old), step(BRIDGE), step(new), compare(0, 2))
                self.assertEqual(split[2:], [[2], told(number, path, row)])

    def test_row_is_the_old_schemas_and_goes_wrong(self):
        for old, new, number, path, row in found_within(LOOSE_WRAPPINGS):
            with self.subTest(old=old, new=new):
                split = ask(begin(old), step(BRIDGE), step(new), read(0, 0, row), read(0, 2, row))
                self.assertEqual([text_of(split[3]), split[4]], [row, [-6]])

    def test_none(self):
        for old, new in NONE_FOUND:
            for outer, above, around in WRAPPINGS + LOOSE_WRAPPINGS:
                old_text, new_text = wrapped(outer, old), wrapped(outer, new)
                with self.subTest(old=old_text, new=new_text):
                    split = ask(begin(old_text), why(new_text), step(new_text), compare(0, 1))
                    self.assertEqual(split, [[0], [0, 0, 0], [1], [0, 0, 0]])


class FirstOfSeveral(unittest.TestCase):
    def first(self, old, new, number, path):
        answer = last(begin(old), why(new))
        self.assertEqual(answer[:2 + len(path)], [number, len(path)] + path)

    def test_goes_by_the_new_schemas_fields(self):
        self.first("{1a!i9;2b?b;3c!i9}", "{2b!b;3c!i8}", 5, [2])
        self.first("{1a!i9;2b?b;3c!i9}", "{1a!i8;2b!b;3c!i8}", 2, [1])
        self.first("{1a!{1x!i9};2b?b}", "{1a!{1x!i8};2b!b}", 2, [1, 1])
        self.first("{2b!i9}", "{1a!b;2b!i8}", 4, [1])
        self.first("{2b!i9}", "{2b!i8;3c!b}", 2, [2])

    def test_modes_come_before_kinds(self):
        self.first("{1a?i9}", "{1a!i8}", 5, [1])
        self.first("{1a*i9}", "{1a?b}", 6, [1])
        self.first("{1a*{1k!i9}}", "{1a%{1k!i8}}", 7, [1])

    def test_missing_comes_before_many(self):
        self.first("{1a*b}", "{1a!b}", 5, [1])
        self.first("{1a%{1k!b}}", "{1a!{1k!b}}", 5, [1])

    def test_gone_comes_before_the_choices_kinds(self):
        self.first("{1a!<1x!i9;2y!b>}", "{1a!<1x!b>}", 3, [1, 2])
        self.first("{1a!<1x!i9;2y!i9>}", "{1a!<1x!i8;2y!i8>}", 2, [1, 1])
        self.first("{1a!<1x!b;2y!b;3z!b>}", "{1a!<2y!b>}", 3, [1, 1])

    def test_unlike_comes_before_narrower(self):
        self.first("{1a!i9}", "{1a!t3}", 1, [1])
        self.first("{1a!t9}", "{1a!i3}", 1, [1])

    def test_path_of_six_numbers(self):
        old = "{1a!{2b!{3c!{4d!{5e!{999f!i9}}}}}}"
        self.assertEqual(last(begin(old), why(old.replace("i9", "i8"))),
                         told(2, [1, 2, 3, 4, 5, 999], "{a:{b:{c:{d:{e:{f:128}}}}}}"))


class WhyAndCompare(unittest.TestCase):
    def test_why_refuses_what_is_no_schema(self):
        self.assertEqual(ask(begin("{1a!b}"), why(""), why("{1a!b"), why("{1a!c}"))[1:], [[-1]] * 3)

    def test_why_changes_nothing(self):
        split = ask(begin("{1a!i8}"), why("{1a!i9}"), [3], why("{1a!i8}"), step("{1a!i8}"))
        self.assertEqual(split[1:], [[0, 0, 0], [1], [0, 0, 0], [1]])

    def test_why_is_in_the_last_versions_names(self):
        split = ask(begin("{1a!i8}"), step("{1b!i9}"), why("{1c!i4}"))
        self.assertEqual(split[2], told(2, [1], "{b:8}"))

    def test_compare_any_two_in_any_order(self):
        chain = [begin("{1a!i8;2b!b}"), step("{1c!i9;3d?b}"), step("{1e?i9}")]
        self.assertEqual(last(*chain, compare(0, 2)), [0, 0, 0])
        self.assertEqual(last(*chain, compare(1, 2)), [0, 0, 0])
        self.assertEqual(last(*chain, compare(2, 2)), [0, 0, 0])
        self.assertEqual(last(*chain, compare(1, 0)), told(2, [1], "{c:128}"))
        self.assertEqual(last(*chain, compare(2, 0)), told(5, [1], "{}"))
        self.assertEqual(last(*chain, compare(2, 1)), told(5, [1], "{}"))

    def test_compare_without_such_versions(self):
        calls = [compare(i, j) for i, j in [(0, 2), (2, 0), (-1, 0), (0, -1), (1, 2), (FAR, 0), (0, FAR), (-FAR, -FAR)]]
        self.assertEqual(ask(begin("{1a!b}"), step("{1a!b}"), *calls)[2:], [[-3]] * len(calls))


if __name__ == "__main__":
    unittest.main()
