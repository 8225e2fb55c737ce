"""Promise 8: what is a row's text, and what another version reads of it."""

import unittest

from tests.helper import NINE_LEAVES, NINE_LEAVES_ROW, ask, begin, is_row, last, long_row, read, read_between, step
from tests.helper import text_of

FAR = 10 ** 18


class RowTextTest(unittest.TestCase):
    def good(self, schema, *texts):
        for text in texts:
            with self.subTest(schema=schema, text=text):
                self.assertTrue(is_row(schema, text))

    def bad(self, schema, *texts):
        for text in texts:
            with self.subTest(schema=schema, text=text):
                self.assertFalse(is_row(schema, text))


class RowTexts(RowTextTest):
    def test_example(self):
        self.good(NINE_LEAVES, NINE_LEAVES_ROW)

    def test_every_beginning_of_the_example_is_none(self):
        self.bad(NINE_LEAVES, *[NINE_LEAVES_ROW[:length] for length in range(len(NINE_LEAVES_ROW))])

    def test_form(self):
        self.good("{1a!i8;2b?b}", "{a:1}", "{a:1;b:0}")
        self.bad("{1a!i8;2b?b}", "", "{}", "a:1", "<a:1>", "{a:1", "a:1}", "{a1}", "{a=1}", "{1:1}", "{a:1}}", "{{a:1}}")
        self.bad("{1a!i8;2b?b}", "{a:1;}", "{;a:1}", "{a:1,b:0}", "{a:1;;b:0}", "{a:1b:0}", "{a:1;b:}", "{a:;b:1}", "{a}")
        self.bad("{1a!i8;2b?b}", " {a:1}", "{a:1} ", "{a: 1}", "{a :1}", "{a:1; b:0}", "{a:1}\n", "{a:1}{a:1}", "{:1}")

    def test_nothing_stands_behind_the_end(self):
        self.bad("{1a!i8}", *[list(b"{a:1}") + [byte] for byte in range(256)])

    def test_names_are_this_schemas(self):
        self.bad("{1a!i8;2b?b}", "{c:1}", "{a:1;c:1}", "{A:1}", "{aa:1}", "{a:1;bb:0}", "{a!:1}")
        self.bad("{1ab!i8}", "{a:1}", "{abc:1}")

    def test_fields_stand_once_in_order(self):
        self.bad("{1a!i8;2b?b}", "{b:0;a:1}", "{a:1;a:1}", "{a:1;b:0;b:0}", "{a:1;b:0;a:1}")
        self.good("{3b?b;7a*b}", "{}", "{b:0}", "{a:0}", "{b:0;a:1,1}")
        self.bad("{3b?b;7a*b}", "{a:0;b:0}", "{a:0;a:0}")

    def test_no_list_without_occurrences(self):
        self.bad("{1a*i8}", "{a:}", "{a:,}", "{a:1,}", "{a:,1}", "{a:1,,1}", "{a}")

    def test_one(self):
        self.bad("{1a!i8}", "{}", "{a:1,2}")
        self.bad("{1a!i8=3}", "{}")
        self.good("{1a!i8=3}", "{a:3}")

    def test_maybe(self):
        self.good("{1a?i8}", "{}", "{a:1}")
        self.bad("{1a?i8}", "{a:1,2}", "{a:1,1}")

    def test_many(self):
        self.good("{1a*i8}", "{}", "{a:1}", "{a:1,1}", "{a:3,2,1,1,5}")

    def test_bits(self):
        self.good("{1a!b}", "{a:0}", "{a:1}")
        self.bad("{1a!b}", "{a:2}", "{a:-1}", "{a:01}", "{a:-0}", '{a:"0"}', "{a:b}")

    def test_whole_numbers(self):
        self.good("{1a!i4}", "{a:0}", "{a:7}", "{a:-8}", "{a:-1}")
        self.bad("{1a!i4}", "{a:8}", "{a:-9}", "{a:00}", "{a:07}", "{a:-0}", "{a:-}", "{a:+1}", "{a:--1}", "{a:1-}")
        self.good("{1a!i64}", "{a:9223372036854775807}", "{a:-9223372036854775808}")
        self.bad("{1a!i64}", "{a:9223372036854775808}", "{a:-9223372036854775809}", "{a:" + "1" * 3990 + "}")
        self.bad("{1a!i64}", "{a:18446744073709551615}", "{a:18446744073709551616}")

    def test_texts(self):
        self.good("{1a!t3}", '{a:""}', '{a:"abc"}', '{a:";:,"}', '{a:"}{ "}', '{a:"\\00\\ff\\22"}', '{a:"\\5c"}')
        self.bad("{1a!t3}", '{a:"abcd"}', "{a:abc}", "{a:1}", '{a:"abc}', '{a:"\\61"}', '{a:"\\FF"}', '{a:"\\00\\ff\\22a"}')
        self.bad("{1a!t3}", [123, 97, 58, 34, 128, 34, 125], [123, 97, 58, 34, 10, 34, 125], '{a:"\\0"}', '{a:"\\')

    def test_records(self):
        self.good("{1a*{1x?b;2y?b}}", "{a:{}}", "{a:{},{}}", "{a:{x:1},{y:0},{x:1;y:1}}")
        self.bad("{1a*{1x?b;2y?b}}", "{a:0}", "{a:<x:1>}", "{a:{}{}}", "{a:{y:0;x:1}}", "{a:{x:1};{y:1}}", "{a:{x:1>}")
        self.bad("{1a!{1x!b}}", "{a:{}}", "{a:{x:0,1}}", "{x:0}")

    def test_choices(self):
        self.good("{1a!<1x!b;2y!t3;3z!{1w?b}>}", "{a:<x:1>}", '{a:<y:"q">}', "{a:<z:{}>}", "{a:<z:{w:0}>}")
        self.bad("{1a!<1x!b;2y!t3>}", "{a:<>}", "{a:<x:1;y:>}", '{a:<x:1;y:"">}', "{a:<x:1,1>}", "{a:<z:1>}", "{a:{x:1}}")
        self.bad("{1a!<1x!b;2y!t3>}", "{a:<x:1}}", "{a:<y:1>}", '{a:<x:"">}', "{a:x:1}", "{a:<x:1>,<x:1>}", "{a:<x>}")

    def test_length(self):
        self.good("{1a*t999}", long_row(3999), long_row(4000))
        self.bad("{1a*t999}", long_row(4001), long_row(4002), '{a:"' + "x" * 4990 + '"}')

    def test_nesting_beyond_the_schema(self):
        self.bad("{1a*{1a?b}}", "{a:" * 1600, "{a:{a:{a:0}}}", "{" * 4000)


class Keys(RowTextTest):
    def test_rise_strictly(self):
        self.good("{1a%{1k!i8;2v?b}}", "{}", "{a:{k:1}}", "{a:{k:-1},{k:0},{k:5;v:1}}")
        self.bad("{1a%{1k!i8;2v?b}}", "{a:{k:1},{k:1}}", "{a:{k:2},{k:1}}", "{a:{k:1},{k:3},{k:2}}", "{a:{k:1;v:0},{k:1;v:1}}")

    def test_numbers_go_by_number(self):
        self.good("{1a%{1k!i8}}", "{a:{k:9},{k:10}}", "{a:{k:-10},{k:-9}}")
        self.bad("{1a%{1k!i8}}", "{a:{k:10},{k:9}}", "{a:{k:-9},{k:-10}}", "{a:{k:0},{k:-1}}")
        self.good("{1a%{1k!b}}", "{a:{k:0},{k:1}}")
        self.bad("{1a%{1k!b}}", "{a:{k:1},{k:0}}", "{a:{k:0},{k:0}}")

    def test_texts_go_by_their_first_unlike_byte(self):
        def keyed(*keys):
            return "{a:" + ",".join('{k:"' + key + '"}' for key in keys) + "}"
        self.good("{1a%{1k!t4}}", keyed("", "a", "aa", "ab", "b"), keyed("A", "a"), keyed("10", "9"))
        self.good("{1a%{1k!t4}}", keyed("\\00", "!"), keyed("~", "\\80", "\\ff"), keyed("!", "\\22", "#"), keyed("Z", "\\5c"))
        self.bad("{1a%{1k!t4}}", keyed("a", ""), keyed("aa", "a"), keyed("a", "a"), keyed("b", "aa"), keyed("9", "10"))
        self.bad("{1a%{1k!t4}}", keyed("!", "\\00"), keyed("\\80", "~"), keyed("\\22", "!"), keyed("", ""))


class Reading(unittest.TestCase):
    def reads(self, old, new, row, expected):
        with self.subTest(old=old, new=new, row=row):
            self.assertEqual(read_between(old, new, row), expected)

    def test_documents_example(self):
        calls = [begin("{1a!i16;2b*{1x!b}}"), step('{1a!i32;2b*{1x!b;3y!t4="q"}}'), read(0, 1, "{a:5;b:{x:1}}")]
        self.assertEqual(text_of(last(*calls)), '{a:5;b:{x:1;y:"q"}}')

    def test_leaf_kinds(self):
        self.reads("{1a?b}", "{1a?b}", "{a:1}", "{a:1}")
        self.reads("{1a?b}", "{1a?i2}", "{a:1}", "{a:1}")
        self.reads("{1a?i64}", "{1a?i8}", "{a:127}", "{a:127}")
        self.reads("{1a?i64}", "{1a?i8}", "{a:-128}", "{a:-128}")
        self.reads("{1a?i64}", "{1a?i8}", "{a:128}", -6)
        self.reads("{1a?i64}", "{1a?i8}", "{a:-129}", -6)
        self.reads("{1a?t9}", "{1a?t3}", '{a:"abc"}', '{a:"abc"}')
        self.reads("{1a?t9}", "{1a?t3}", '{a:"\\00\\01\\02"}', '{a:"\\00\\01\\02"}')
        self.reads("{1a?t9}", "{1a?t3}", '{a:"abcd"}', -6)

    def test_unlike_kinds(self):
        self.reads("{1a?i8}", "{1a?b}", "{a:1}", -6)
        self.reads("{1a?i8}", "{1a?t9}", "{a:1}", -6)
        self.reads("{1a?b}", "{1a?t9}", "{a:1}", -6)
        self.reads("{1a?t9}", "{1a?i8}", '{a:"1"}', -6)
        self.reads("{1a?t9}", "{1a?b}", '{a:""}', -6)
        self.reads("{1a?b}", "{1a?{1x?b}}", "{a:0}", -6)
        self.reads("{1a?{1x?b}}", "{1a?b}", "{a:{}}", -6)
        self.reads("{1a?{1x!b}}", "{1a?<1x!b>}", "{a:{x:0}}", -6)
        self.reads("{1a?<1x!b>}", "{1a?{1x!b}}", "{a:<x:0>}", -6)
        self.reads("{1a?<1x!b>}", "{1a?b}", "{a:<x:0>}", -6)
        self.reads("{1a?t3}", "{1a?<1x!b>}", '{a:""}', -6)

    def test_unlike_kinds_dont_matter_without_occurrences(self):
        self.reads("{1a?i8}", "{1a?t9}", "{}", "{}")
        self.reads("{1a*{1x!b}}", "{1a?<1x!b>}", "{}", "{}")

    def test_modes(self):
        self.reads("{1a*i8}", "{1a?i8}", "{a:3}", "{a:3}")
        self.reads("{1a*i8}", "{1a?i8}", "{a:3,3}", -6)
        self.reads("{1g?{1a*i8}}", "{1g?{1a!i8}}", "{g:{a:3}}", "{g:{a:3}}")
        self.reads("{1g?{1a*i8}}", "{1g?{1a!i8}}", "{g:{a:3,4}}", -6)
        self.reads("{1g?{1a*i8}}", "{1g?{1a!i8}}", "{g:{}}", -6)
        self.reads("{1g?{1a?i8}}", "{1g?{1a!i8=5}}", "{g:{}}", -6)
        self.reads("{1a!i8}", "{1a*i8}", "{a:3}", "{a:3}")

    def test_keys_as_they_are_read(self):
        self.reads("{1a*{1k!i8}}", "{1a%{1k!i8}}", "{a:{k:1},{k:2}}", "{a:{k:1},{k:2}}")
        self.reads("{1a*{1k!i8}}", "{1a%{1k!i8}}", "{a:{k:1},{k:1}}", -6)
        self.reads("{1a*{1k!i8}}", "{1a%{1k!i8}}", "{a:{k:2},{k:1}}", -6)
        self.reads("{1a%{1k!i8;2l!i8}}", "{1a%{2l!i8}}", "{a:{k:1;l:5},{k:2;l:6}}", "{a:{l:5},{l:6}}")
        self.reads("{1a%{1k!i8;2l!i8}}", "{1a%{2l!i8}}", "{a:{k:1;l:5},{k:2;l:5}}", -6)
        self.reads("{1a%{2k!i8}}", "{1a%{1j!i8=4;2k!i8}}", "{a:{k:1}}", "{a:{j:4;k:1}}")
        self.reads("{1a%{2k!i8}}", "{1a%{1j!i8=4;2k!i8}}", "{a:{k:1},{k:2}}", -6)
        self.reads("{1a*{1k?i8}}", "{1a%{1k!i8}}", "{a:{k:1},{k:2}}", "{a:{k:1},{k:2}}")
        self.reads("{1a*{1k?i8}}", "{1a%{1k!i8}}", "{a:{k:1},{}}", -6)

    def test_keys_of_texts(self):
        self.reads("{1a*{1k!t8}}", "{1a%{1k!t8}}", '{a:{k:"10"},{k:"9"}}', '{a:{k:"10"},{k:"9"}}')
        self.reads("{1a*{1k!t8}}", "{1a%{1k!t8}}", '{a:{k:"9"},{k:"10"}}', -6)

    def test_what_falls_away_is_not_looked_at(self):
        self.reads("{1a?i8;2b?t3}", "{2b?t3}", '{a:1;b:"x"}', '{b:"x"}')
        self.reads("{1a?i8;2b?t3}", "{3c?t3}", '{a:1;b:"x"}', "{}")

    def test_fields_go_by_their_numbers(self):
        self.reads("{1a?i8;2b?i8}", "{1b?i8;2a?i8}", "{a:1;b:2}", "{b:1;a:2}")
        self.reads("{1a?i8}", "{2a?i8}", "{a:1}", "{}")

    def test_fillings(self):
        self.reads("{1a?i8}", "{1a?i8;2b!i8=-7}", "{a:1}", "{a:1;b:-7}")
        self.reads("{3a?i8}", '{1b!t9="\\22\\00";2c!b=0;3a?i8}', "{a:1}", '{b:"\\22\\00";c:0;a:1}')
        self.reads("{1a?i8}", "{2r!{1x!b=1;2y?b;3z*b;4w%{1k!b};5q!{1v!i4=-3}}}", "{}", "{r:{x:1;q:{v:-3}}}")
        self.reads("{1a?i8}", "{2r!{1x?b}}", "{}", "{r:{}}")
        self.reads("{1a?i8}", "{2r?{1x!b=0};3s*{1x!b=0};4t%{1x!b=0};5c?<1x!b>}", "{}", "{}")

    def test_without_filling(self):
        self.reads("{1g*{1a?b}}", "{1g*{2b!b}}", "{}", "{}")
        self.reads("{1g*{1a?b}}", "{1g*{2b!b}}", "{g:{}}", -6)
        self.reads("{1g*{1a?b}}", "{1g*{2b!<1x!b>}}", "{g:{}}", -6)
        self.reads("{1g*{1a?b}}", "{1g*{2b!{1x!b=0;2y!b}}}", "{g:{}}", -6)
        self.reads("{1g*{1a?b}}", "{1g*{2b!{1x!b=0;2y?b}}}", "{g:{},{a:1}}", "{g:{b:{x:0}},{b:{x:0}}}")

    def test_choices(self):
        old, new = "{1c?<1x!b;2y!i8;5z!{1w!b}>}", "{1c?<2why!i4;4n!t3;5z!{1w!b;2v!b=1}>}"
        self.reads(old, new, "{c:<y:7>}", "{c:<why:7>}")
        self.reads(old, new, "{c:<y:8>}", -6)
        self.reads(old, new, "{c:<x:1>}", -6)
        self.reads(old, new, "{c:<z:{w:0}>}", "{c:<z:{w:0;v:1}>}")

    def test_within_groups(self):
        old = "{1a?{1b*<1c!{1d%{1k!b;2v*i9}}>}}"
        new = "{1a*{1bb*<1cc!{1dd*{2vv*i8}}>}}"
        self.reads(old, new, "{a:{b:<c:{d:{k:0;v:1,127},{k:1}}>,<c:{}>}}", "{a:{bb:<cc:{dd:{vv:1,127},{}}>,<cc:{}>}}")
        self.reads(old, new, "{a:{b:<c:{d:{k:0;v:1,128},{k:1}}>}}", -6)

    def test_backwards(self):
        chain = [begin("{1a!i8;2b!b}"), step("{1c!i9}"), step("{1c*i9;2b!b=1}")]
        self.assertEqual(text_of(last(*chain, read(2, 0, "{c:127;b:0}"))), "{a:127;b:0}")
        self.assertEqual(text_of(last(*chain, read(2, 0, "{c:128;b:0}"))), -6)
        self.assertEqual(text_of(last(*chain, read(2, 1, "{c:255;b:0}"))), "{c:255}")
        self.assertEqual(text_of(last(*chain, read(2, 1, "{b:0}"))), -6)
        self.assertEqual(text_of(last(*chain, read(1, 0, "{c:1}"))), -6)

    def test_straight_over_versions_between(self):
        chain = [begin("{1a!i8;2b?b}"), step("{1a!i8}"), step("{1a!i8;2b?b}")]
        self.assertEqual(text_of(last(*chain, read(0, 2, "{a:1;b:1}"))), "{a:1;b:1}")

    def test_answer_may_be_longer_than_a_row(self):
        default = "z" * 900
        new = '{1a*{1x?b;2y!t900="' + default + '"}}'
        row = "{a:" + ",".join(["{}"] * 1332) + "}"
        self.assertEqual(len(row), 3999)
        expected = "{a:" + ",".join(['{y:"' + default + '"}'] * 1332) + "}"
        self.assertEqual(read_between("{1a*{1x?b}}", new, row), expected)


class Refusals(unittest.TestCase):
    def test_no_such_version_comes_first(self):
        chain = [begin("{1a!i8}"), step("{1a!i9}")]
        pairs = [(0, 2), (2, 0), (-1, 0), (0, -1), (2, 2), (FAR, 0), (0, -FAR), (-2, 1), (1, 16)]
        calls = [read(i, j, "{a:1}") for i, j in pairs] + [read(i, j, "no") for i, j in pairs]
        self.assertEqual(ask(*chain, *calls)[2:], [[-3]] * len(calls))

    def test_no_rows_text_comes_next(self):
        chain = [begin("{1a!i8}"), step("{1b!i9}")]
        calls = [read(1, 0, "{a:1}"), read(1, 0, "{b:256}"), read(1, 0, ""), read(0, 1, "{b:1}"), read(1, 0, "{b:200}}")]
        self.assertEqual(ask(*chain, *calls)[2:], [[-1]] * 5)

    def test_cant_be_read_comes_last(self):
        chain = [begin("{1a!i8}"), step("{1b!i9}")]
        self.assertEqual(last(*chain, read(1, 0, "{b:200}")), [-6])

    def test_changes_nothing(self):
        chain = [begin("{1a!i8}"), step("{1b!i9}")]
        split = ask(*chain, read(1, 0, "{b:200}"), [3], read(1, 0, "{b:2}"), [3], read(1, 0, "{b:2}"))
        self.assertEqual([split[3], split[5]], [[2], [2]])
        self.assertEqual([text_of(split[4]), text_of(split[6])], ["{a:2}", "{a:2}"])


if __name__ == "__main__":
    unittest.main()
