"""Promises 9 and 10: rows read version by version, and whether a way is straight."""

import unittest

from growingschemas.schemas import parse_schema
from growingschemas.ways import is_straight
from tests.helper import BRIDGE, NINE_LEAVES, NINE_LEAVES_ROW, ask, begin, last, long_row, read, signs, step, straight
from tests.helper import text_of, through, versions

FAR = 10 ** 18
NO_SUCH_PAIRS = [(0, 3), (3, 0), (3, 3), (-1, 0), (0, -1), (-1, -1), (-3, -1), (0, 16), (-FAR, FAR), (0, FAR), (-FAR, 2)]
BACKWARDS = [(1, 0), (2, 1), (2, 0)]


def chain_of(*schemas):
    """The calls that make this chain."""
    calls = [begin(schemas[0])] + [step(schema) for schema in schemas[1:]]
    assert ask(*calls) == [[k] for k in range(len(schemas))], ask(*calls)
    return calls


class Through(unittest.TestCase):
    def goes(self, schemas, row, expected):
        """The row of the first schema, as each of them reads it."""
        calls = chain_of(*schemas)
        for j, text in enumerate(expected):
            with self.subTest(schemas=schemas, row=row, j=j):
                self.assertEqual(text_of(last(*calls, through(0, j, row))), text)
        self.assertEqual(len(schemas), len(expected))

    def test_same_version_stays_as_it_is(self):
        self.goes([NINE_LEAVES], NINE_LEAVES_ROW, [NINE_LEAVES_ROW])
        calls = chain_of("{1a!i8}", "{1b!i9}", "{1c!i10}")
        self.assertEqual(text_of(last(*calls, through(1, 1, "{b:-256}"))), "{b:-256}")
        self.assertEqual(text_of(last(*calls, through(2, 2, "{c:5}"))), "{c:5}")

    def test_added_renamed_widened_made_optional_taken_away(self):
        self.goes(['{1a!i8}', '{1a!i8;2b!t3="q"}', '{1aa!i8;2b!t3="r"}', "{1aa!i16;2b?t5}", "{2b*t5}"], "{a:5}",
                  ["{a:5}", '{a:5;b:"q"}', '{aa:5;b:"q"}', '{aa:5;b:"q"}', '{b:"q"}'])

    def test_added_within_groups(self):
        schemas = ["{1g*{1x!b};2c!<1r!{1y!b}>}", "{1g*{1x!b;2n!i8=-3};2c!<1r!{1y!b;2m!b=1}>}",
                   "{1h*{1x!i2;2n!i8;3o?b};2c!<1r!{1y!b;2m!b;3e!{1f!b=0}}>}", "{1h*{2n!i8=9};2c!<1r!{2m?b;3e!{1f!b=1}}>}"]
        self.goes(schemas, "{g:{x:0},{x:1};c:<r:{y:1}>}",
                  ["{g:{x:0},{x:1};c:<r:{y:1}>}", "{g:{x:0;n:-3},{x:1;n:-3};c:<r:{y:1;m:1}>}",
                   "{h:{x:0;n:-3},{x:1;n:-3};c:<r:{y:1;m:1;e:{f:0}}>}", "{h:{n:-3},{n:-3};c:<r:{m:1;e:{f:0}}>}"])

    def test_every_default_is_that_of_the_first_version_with_the_field(self):
        schemas = ["{1a!i8}", "{1a!i8;2b!i8=1}", "{1a!i8;2b!i8=2;3c!i8=3}", "{1a!i8;2b!i8=4;3c!i8=5}"]
        self.goes(schemas, "{a:0}", ["{a:0}", "{a:0;b:1}", "{a:0;b:1;c:3}", "{a:0;b:1;c:3}"])
        calls = chain_of(*schemas)
        self.assertEqual(text_of(last(*calls, through(1, 3, "{a:0;b:7}"))), "{a:0;b:7;c:3}")
        self.assertEqual(text_of(last(*calls, through(2, 3, "{a:0;b:7;c:8}"))), "{a:0;b:7;c:8}")

    def test_what_fell_away_does_not_come_back(self):
        schemas = ["{1a!i8;2b?i8;3c!i8}", "{1a!i8}", "{1a!i8;2b?i8;3c!i8=9}"]
        self.goes(schemas, "{a:1;b:2;c:3}", ["{a:1;b:2;c:3}", "{a:1}", "{a:1;c:9}"])
        calls = chain_of(*schemas)
        self.assertEqual(text_of(last(*calls, read(0, 2, "{a:1;b:2;c:3}"))), "{a:1;b:2;c:3}")

    def test_field_comes_back_as_another_kind(self):
        schemas = ["{1a!i8;2b!i8}", "{1a!i8}", '{1a!i8;2b!t3="z"}']
        self.goes(schemas, "{a:1;b:2}", ["{a:1;b:2}", "{a:1}", '{a:1;b:"z"}'])
        self.assertEqual(last(*chain_of(*schemas), read(0, 2, "{a:1;b:2}")), [-6])

    def test_keys(self):
        self.goes(["{1a!{1k!b};2m%{1k!t3;2v!b}}", "{1a%{1k!b};2m%{1k!t5}}", "{1a%{1k!i8};2m*{1k?t5}}"],
                  '{a:{k:1};m:{k:"";v:0},{k:"a";v:0}}',
                  ['{a:{k:1};m:{k:"";v:0},{k:"a";v:0}}', '{a:{k:1};m:{k:""},{k:"a"}}', '{a:{k:1};m:{k:""},{k:"a"}}'])

    def test_choices_with_other_places(self):
        self.goes(["{1c!<3x!b;5y!t3>}", "{1c!<1n!b;3xx!b;5yy!t4>}", "{1c?<1n!b;2o!b;3xxx!i9;5yyy!t9>}"], "{c:<x:1>}",
                  ["{c:<x:1>}", "{c:<xx:1>}", "{c:<xxx:1>}"])

    def test_all_sixteen_versions(self):
        schemas = ["{" + ";".join(f"{n}f{n}!i{8 + k}={n}" for n in range(1, k + 2)) + "}" for k in range(16)]
        calls = chain_of(*schemas)
        expected = "{f1:-7;" + ";".join(f"f{n}:{n}" for n in range(2, 17)) + "}"
        self.assertEqual(text_of(last(*calls, through(0, 15, "{f1:-7}"))), expected)
        self.assertEqual(text_of(last(*calls, through(15, 15, expected))), expected)
        self.assertEqual(last(*calls, through(0, 16, "{f1:-7}")), [-3])

    def test_answer_may_be_longer_than_a_row(self):
        calls = chain_of("{1a*{1x?b}}", '{1a*{1x?b;2y!t900="' + "z" * 900 + '"}}', "{1a*{2yy!t901}}")
        row = "{a:" + ",".join(["{}"] * 1332) + "}"
        expected = "{a:" + ",".join(['{yy:"' + "z" * 900 + '"}'] * 1332) + "}"
        self.assertEqual(text_of(last(*calls, through(0, 2, row))), expected)

    def test_no_such_version_or_backwards_comes_first(self):
        calls = chain_of("{1a!i8}", "{1a!i8}", "{1a!i8}")
        asked = [through(i, j, text) for i, j in NO_SUCH_PAIRS + BACKWARDS for text in ("{a:1}", "{a:", "")]
        self.assertEqual(ask(*calls, *asked)[3:], [[-3]] * len(asked))

    def test_no_rows_text_comes_next(self):
        calls = chain_of("{1a!i8}", "{1b!i9}", "{1c!i9}")
        asked = [through(i, j, text) for i, j, text in [
            (0, 0, "{b:1}"), (0, 1, "{b:1}"), (0, 2, "{a:128}"), (1, 2, "{a:1}"), (1, 1, "{c:1}"), (2, 2, ""),
            (0, 2, "{}"), (0, 2, "{a:1}}"), (0, 2, "{a:1,1}"), (0, 2, [0, 255])]]
        self.assertEqual(ask(*calls, *asked)[3:], [[-1]] * len(asked))

    def test_longest_row(self):
        calls = chain_of("{1a*t999}", "{1a*t999}")
        self.assertEqual(text_of(last(*calls, through(0, 1, long_row(4000)))), long_row(4000))
        self.assertEqual(text_of(last(*calls, through(0, 0, long_row(4000)))), long_row(4000))
        self.assertEqual(ask(*calls, through(0, 1, long_row(4001)), through(1, 1, long_row(4001)))[2:], [[-1], [-1]])

    def test_changes_nothing(self):
        calls = chain_of("{1a!i8}", "{1b!i8}")
        asked = [through(0, 1, "{a:1}"), versions(), [10], through(1, 0, ""), versions(), through(0, 1, "{a:1}")]
        text = [5] + signs("{b:1}")
        self.assertEqual(ask(*calls, *asked)[2:], [text, [2], [0], [-3], [2], text])


class Straight(unittest.TestCase):
    def test_short_ways(self):
        calls = chain_of("{1a!i8}", "{1b?i8;2c?b}", "{2c?b}", "{1b?b}")
        for i in range(4):
            self.assertEqual(last(*calls, straight(i, i)), [1])
        for i in range(3):
            self.assertEqual(last(*calls, straight(i, i + 1)), [1])

    def test_fields_that_come_back(self):
        calls = chain_of("{1a!i8;2b?b}", "{1a!i8}", "{1a!i8;2b?b}")
        self.assertEqual(last(*calls, straight(0, 2)), [0])

    def test_each_three_on_the_way_end_at_its_last_version(self):
        calls = chain_of("{1a!b}", "{1a!b;2b!b=0}", "{1a!b;2b!b=1}", "{1a!b}")
        pairs = [(0, 2), (0, 3), (1, 3)]
        self.assertEqual(ask(*calls, *[straight(i, j) for i, j in pairs])[4:], [[0], [1], [1]])
        calls = chain_of("{1a!b}", "{1a!b;2b!b=0}", "{1a!b;2b!b=0}", "{1a!b;2b!b=1}")
        self.assertEqual(ask(*calls, *[straight(i, j) for i, j in pairs])[4:], [[1], [0], [1]])

    def test_first_and_last_three_of_a_long_way(self):
        plain = ["{1a!b}"] * 12
        odd = ["{1a!b}", "{1a!b;2b!b=0}"]
        calls = chain_of(*odd, *["{1a!b;2b!b=1}"] * 14)
        self.assertEqual(ask(*calls, straight(0, 15), straight(1, 15))[16:], [[0], [1]])
        calls = chain_of(*plain, "{1a!b}", *odd, "{1a!b;2b!b=1}")
        self.assertEqual(ask(*calls, straight(0, 15), straight(13, 15), straight(14, 15), straight(0, 14))[16:],
                         [[0], [0], [1], [1]])
        calls = chain_of(*plain, "{1a!i2}", "{1a!i3}", "{1a!i4;2b!b=1}", "{1a!i5;2b!b=1}")
        self.assertEqual(last(*calls, straight(0, 15)), [1])

    def test_filling_that_cant_be_read_any_more(self):
        calls = chain_of("{1a!b}", "{1a!b;2r!{1x!b=1;2y?b}}", "{1a!b;2r!{2y?b}}", '{1a!b;2r!{1x!t3="";2y?b}}')
        self.assertEqual(last(*calls, straight(0, 3)), [0])
        calls = chain_of("{1a!b}", "{1a!b;2r!i8=5}", "{1a!b}", "{1a!b;2r!i3=1}")
        self.assertEqual(last(*calls, straight(0, 3)), [0])

    def test_no_such_version_or_backwards(self):
        calls = chain_of("{1a!i8}", "{1a!i8}", "{1a!i8}")
        asked = [straight(i, j) for i, j in NO_SUCH_PAIRS + BACKWARDS]
        self.assertEqual(ask(*calls, *asked)[3:], [[-3]] * len(asked))

    def test_sixteen_versions(self):
        calls = chain_of(*["{1a!i8}"] * 16)
        asked = [straight(0, 15), straight(15, 15), straight(0, 16), straight(16, 16), straight(15, 14)]
        self.assertEqual(ask(*calls, *asked)[16:], [[1], [1], [-3], [-3], [-3]])


class ThreeGoStraight(unittest.TestCase):
    """The clauses, one by one: also of three schemas that no chain would have in a row."""

    def look(self, expected, old, between, new):
        with self.subTest(old=old, between=between, new=new):
            way = [parse_schema(signs(text)) for text in (old, between, new)]
            self.assertEqual(is_straight(way), expected)
            calls = [begin(old), step(between), step(new), straight(0, 2)]
            split = ask(*calls)
            if split[:3] == [[0], [1], [2]]:
                self.assertEqual(split[3], [1 if expected else 0])

    def goes(self, old, between, new):
        self.look(True, old, between, new)

    def fails(self, old, between, new):
        self.look(False, old, between, new)

    def test_leaf_kinds(self):
        self.goes("{1a!b}", "{1a!i2}", "{1a!i64}")
        self.goes("{1a!t3}", "{1a?t4}", "{1a*t4}")
        self.goes("{1a!i8}", "{1a!t3}", "{1a!b}")
        self.goes("{1a!i8=1}", "{1a!i8=2}", "{1a!i8=3}")

    def test_unlike_kinds(self):
        leaf, record, choice = "{1a?b}", "{1a?{1x?b}}", "{1a?<1x!b>}"
        kinds = [leaf, record, choice]
        for old in kinds:
            for between in kinds:
                for new in kinds:
                    self.look(old == between == new, old, between, new)

    def test_unlike_kinds_within_groups(self):
        self.fails("{1g!{1a?b}}", "{1g!{1a?b}}", "{1g!{1a?{1x?b}}}")
        self.fails("{1g!<1a!b>}", "{1g!<1a!{1x?b}>}", "{1g!<1a!b>}")

    def test_choices(self):
        self.goes("{1c!<1x!b;2y!b>}", "{1c!<1x!b;2y!b>}", "{1c!<1x!b;2y!b>}")
        self.goes("{1c!<2y!b>}", "{1c!<1x!b;2y!b>}", "{1c!<1x!i8;2y!b;3z!b>}")
        self.fails("{1c!<1x!b;2y!b>}", "{1c!<1x!b>}", "{1c!<1x!b;2y!b>}")
        self.fails("{1c!<1x!b;2y!b>}", "{1c!<1x!b;2y!b>}", "{1c!<1x!b>}")
        self.fails("{1c!<1x!b;2y!b>}", "{1c!<2y!b>}", "{1c!<2y!b>}")
        self.fails("{1c!<1x!b>}", "{1c!<2x!b>}", "{1c!<3x!b>}")

    def test_kinds_within_choices(self):
        self.goes("{1c!<1x!{1p!b}>}", "{1c!<1x!{1p!b;2q!b=0}>}", "{1c!<1x!{1p!b;2q!b=0}>}")
        self.fails("{1c!<1x!{1p!b}>}", "{1c!<1x!{1p!b;2q!b=0}>}", "{1c!<1x!{1p!b;2q!b=1}>}")
        self.fails("{1c!<1x!b;2y!{1p!b}>}", "{1c!<1x!b;2y!{1p!b;2q!b=0}>}", "{1c!<1x!b;2y!{1p!b;2q!b}>}")
        self.fails("{1c!<1x!{1p?b;2q?b}>}", "{1c!<1x!{2q?b}>}", "{1c!<1x!{1p?b;2q?b}>}")

    def test_fields_of_a_choice_that_the_old_one_hasnt(self):
        self.goes("{1c!<1x!b>}", "{1c!<1x!b;2y!{1p!b}>}", "{1c!<1x!b;2y!<1p!b>>}")
        self.goes("{1c!<1x!b>}", "{1c!<1x!b;2y!b>}", "{1c!<1x!b>}")

    def test_field_that_is_gone_between(self):
        self.fails("{1a!b;2b?b}", "{1a!b}", "{1a!b;2b?b}")
        self.fails("{1a!b;2b*b}", "{1a!b}", "{1a!b;2b*b}")
        self.fails("{1a!b;2b!b}", "{1a!b}", "{1a!b;2b!b=0}")
        self.fails("{1g*{1a!b;2b?b}}", "{1g*{1a!b}}", "{1g*{1a!b;2b?b}}")
        self.fails("{1g!{2h!{1a!b;2b?b}}}", "{1g!{2h!{1a!b}}}", "{1g!{2h!{1a!b;2b?b}}}")

    def test_field_that_the_new_one_hasnt(self):
        self.goes("{1a!b;2b?b}", "{1a!b}", "{1a!b}")
        self.goes("{1a!b;2b?b}", "{1a!b;2b?b}", "{1a!b}")
        self.goes("{1a!b}", "{1a!b;2b!b=0}", "{1a!b}")
        self.goes("{1a!b;2b!{1x!b}}", "{1a!b;2b!<1x!b>}", "{1a!b}")

    def test_field_that_only_the_new_one_has(self):
        self.goes("{1a!b}", "{1a!b}", "{1a!b;2b!b=1}")
        self.goes("{1a!b}", "{1a!b}", "{1a!b;2b?b}")
        self.goes("{1a!b}", "{1a!b}", "{1a!b;2b!b}")
        self.goes("{1a!b}", "{2a?b}", "{3b!<1x!b>}")

    def test_filled_in_the_same(self):
        self.goes("{1a!b}", "{1a!b;2b!b=1}", "{1a!b;2b!b=1}")
        self.goes("{1a!b}", "{1a!b;2b!b=1}", "{1a!b;2bb!i9=1}")
        self.goes("{1a!b}", '{1a!b;2b!t3="\\00q"}', '{1a!b;2b!t5="\\00q"}')
        self.goes("{1a!b}", "{1a!b;2b!i8=-5}", "{1a!b;2b!i4=-5}")
        self.goes("{1a!b}", "{1a!b;2b?b}", "{1a!b;2b?b}")
        self.goes("{1a!b}", "{1a!b;2b?b}", "{1a!b;2b*b}")
        self.goes("{1a!b}", "{1a!b;2b*b}", "{1a!b;2b?b}")
        self.goes("{1a!b}", "{1a!b;2b*{1k!b}}", "{1a!b;2b%{1k!b}}")
        self.goes("{1a!b}", "{1a!b;2b?b}", "{1a!b;2b?{1x!b}}")

    def test_filled_in_otherwise(self):
        self.fails("{1a!b}", "{1a!b;2b!b=1}", "{1a!b;2b!b=0}")
        self.fails("{1a!b}", '{1a!b;2b!t3="q"}', '{1a!b;2b!t3="qq"}')
        self.fails("{1a!b}", '{1a!b;2b!t3="q"}', '{1a!b;2b!t3="r"}')
        self.fails("{1a!b}", "{1a!b;2b!i8=0}", "{1a!b;2b?i8}")
        self.fails("{1a!b}", "{1a!b;2b!i8=0}", "{1a!b;2b*i8}")
        self.fails("{1a!b}", "{1a!b;2b!{1k!b=0}}", "{1a!b;2b%{1k!b=0}}")

    def test_filled_in_just_once(self):
        self.fails("{1a!b}", "{1a!b;2b!b=1}", "{1a!b;2b!b}")
        self.fails("{1a!b}", "{1a!b;2b!b}", "{1a!b;2b!b=1}")
        self.fails("{1a!b}", "{1a!b;2b!b}", "{1a!b;2b!b}")
        self.fails("{1a!b}", "{1a!b;2b!<1x!b>}", "{1a!b;2b!<1x!b>}")
        self.fails("{1a!b}", "{1a!b;2b!{1x!b=0}}", "{1a!b;2b!{1x!b}}")
        self.fails("{1a!b}", "{1a!b;2b!{1x!b=0}}", "{1a!b;2b!{1x!b=0;2y!b}}")

    def test_filling_that_cant_be_read(self):
        self.fails("{1a!b}", "{1a!b;2b!i8=5}", "{1a!b;2b!i3=3}")
        self.fails("{1a!b}", "{1a!b;2b!i8=1}", "{1a!b;2b!b=1}")
        self.fails("{1a!b}", '{1a!b;2b!t3="abc"}', '{1a!b;2b!t2="ab"}')
        self.fails("{1a!b}", "{1a!b;2b!{1x!b=0}}", "{1a!b;2b!b=0}")
        self.fails("{1a!b}", "{1a!b;2b?b}", "{1a!b;2b!b=0}")
        self.fails("{1a!b}", "{1a!b;2b*b}", "{1a!b;2b!b=0}")

    def test_fillings_that_are_records(self):
        self.goes("{1a!b}", "{1a!b;2r!{1x!b=1;2y?b}}", "{1a!b;2r!{1x!b=1;2y*b}}")
        self.goes("{1a!b}", "{1a!b;2r!{1x!b=1}}", "{1a!b;2rr!{1xx!i2=1;2y!b=0}}")
        self.goes("{1a!b}", "{1a!b;2r!{1x!b=1;2y!b=0}}", "{1a!b;2r!{2y!b=0}}")
        self.goes("{1a!b}", "{1a!b;2r!{1x?b}}", "{1a!b;2r!{3z?b}}")
        self.fails("{1a!b}", "{1a!b;2r!{1x!b=1}}", "{1a!b;2r!{1x!b=0}}")
        self.fails("{1a!b}", "{1a!b;2r!{1x!b=1}}", "{1a!b;2r!{1x?b}}")
        self.fails("{1a!b}", "{1a!b;2r!{1x!b=1;2y?b}}", "{1a!b;2r!{1x!b=1;2y!b=0}}")
        self.fails("{1a!b}", "{1a!b;2r!{1s!{1x!b=1}}}", "{1a!b;2r!{1s!{1x!b=0}}}")
        self.goes("{1a!b}", "{1a!b;2r!{1s!{1x!b=1}}}", "{1a!b;2r!{1s!{1x!i5=1}}}")

    def test_fillings_within_groups(self):
        self.goes("{1g?{1a!b}}", "{1g?{1a!b;2b!b=1}}", "{1g*{1a!b;2b!b=1}}")
        self.fails("{1g?{1a!b}}", "{1g?{1a!b;2b!b=1}}", "{1g*{1a!b;2b!b=0}}")
        self.fails("{1g%{1k!b}}", "{1g%{1k!b;2b!b=1}}", "{1g%{1k!b;2b?b}}")
        deep = "{{1g!{{1h!<1i!{{1j!{{1k!<1l!b>{}}}}}>}}}}"
        self.goes(deep.format(""), deep.format(";2m!b=1"), deep.format(";2m!b=1"))
        self.fails(deep.format(""), deep.format(";2m!b=1"), deep.format(";2m!b=0"))

    def test_every_field_is_asked(self):
        self.fails("{1a!b;2b?b;3c?b}", "{1a!b;3c?b}", "{1a!b;2b?b;3c?b}")
        self.fails("{1a!b;2b?b;3c?b}", "{1a!b;2b?b}", "{1a!b;2b?b;3c?b}")
        self.fails("{1a?b;2b?b;3c?b}", "{2b?b;3c?b}", "{1a?b;2b?b;3c?b}")
        self.fails("{1a?b}", BRIDGE, "{1a?b}")

    def test_names_and_modes_dont_matter(self):
        self.goes("{1a!b;2b!b}", "{1b!b;2a!b}", "{1q?b;2r*b}")
        self.goes("{1a*{1k!b}}", "{1a?{1k!b}}", "{1a!{1k!b}}")


if __name__ == "__main__":
    unittest.main()
