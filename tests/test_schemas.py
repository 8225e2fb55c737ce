"""Promise 1, and what is and what isn't a schema."""

import unittest

from tests.helper import NINE_LEAVES, ask, begin, is_schema, last, read, show, step, text_of, versions


class SchemaTest(unittest.TestCase):
    def good(self, *texts):
        for text in texts:
            with self.subTest(text=text):
                self.assertTrue(is_schema(text))

    def bad(self, *texts):
        for text in texts:
            with self.subTest(text=text):
                self.assertFalse(is_schema(text))


class Begin(SchemaTest):
    def test_answers_zero(self):
        self.assertEqual(ask(begin("{1a!b}")), [[0]])

    def test_refuses_what_is_no_schema(self):
        self.assertEqual(ask(begin(""), begin("{}"), begin("{1a!b"), begin("no")), [[-1]] * 4)

    def test_begins_anew(self):
        calls = [begin("{1a!b}"), step("{1a!i8}"), begin("{1z!t3}"), versions(), show(0), show(1)]
        self.assertEqual(ask(*calls)[2:5], [[0], [1], [7] + list(b"{1z!t3}")])
        self.assertEqual(last(*calls), [-3])

    def test_refused_leaves_the_versions(self):
        calls = [begin("{1a!b}"), step("{1a!i8}"), begin("{1a!c}"), versions(), show(0), show(1)]
        answers = ask(*calls)
        self.assertEqual(answers[2:4], [[-1], [2]])
        self.assertEqual([text_of(answers[4]), text_of(answers[5])], ["{1a!b}", "{1a!i8}"])

    def test_keeps_the_schema_of_the_last_begin(self):
        self.assertEqual(text_of(last(begin("{1a!b}"), begin("{1z!t3}"), read(0, 0, '{z:"q"}'))), '{z:"q"}')


class Form(SchemaTest):
    def test_example(self):
        self.good(NINE_LEAVES)

    def test_every_beginning_of_the_example_is_none(self):
        self.bad(*[NINE_LEAVES[:length] for length in range(len(NINE_LEAVES))])

    def test_outermost_is_a_record(self):
        self.bad("<1a!b>", "b", "i8", "1a!b", "[1a!b]")

    def test_groups_have_fields(self):
        self.bad("{}", "{1a!{}}", "{1a!<>}", "{;}", "{1a!b;}", "{;1a!b}", "{1a!b;;2b!b}", "{1a!b2b!b}")

    def test_ends_are_those_of_the_group(self):
        self.good("{1a!<1b!b>}", "{1a!{1b!b}}")
        self.bad("{1a!b>", "{1a!<1b!b}}", "{1a!{1b!b>}", "{1a!<1b!b>>", "{1a!b}}", "{1a!b};", "{1a!b}{1a!b}")

    def test_no_blanks(self):
        self.bad(" {1a!b}", "{1a!b} ", "{1a!b; 2b!b}", "{1 a!b}", "{1a! b}", "{1a!i 8}", "{1a!b}\n", "{1a!i8= 1}")

    def test_parts_stand_in_order(self):
        self.bad("{a1!b}", "{1!ab}", "{1ab!}", "{1a}", "{1a!}", "{!b}", "{1!b}", "{a!b}", "{1a!b!}", "{1ab}")

    def test_no_sign_beyond_ascii(self):
        self.bad([123, 49, 225, 33, 98, 125], [123, 49, 97, 33, 98, 0, 125], [255], [0])
        self.bad(*[list(b"{1a!b}") + [byte] for byte in range(256)])

    def test_length(self):
        def long_schema(length):
            # Two texts: one default can't have more than 999 bytes.
            head = '{1a!t999="' + "x" * 999 + '";2b!t999="'
            return head + "y" * (length - len(head) - 2) + '"}'
        self.assertEqual(len(long_schema(2000)), 2000)
        self.good(long_schema(1999), long_schema(2000))
        self.bad(long_schema(2001), long_schema(2002))

    def test_far_too_long_or_deep_is_refused_all_the_same(self):
        self.bad("{1a!" * 1250, "{1a!" * 500, "{1a!<" * 400, "1" * 5000, "{" * 2000, "{1" + "1" * 1990, "{1a" * 1666)
        self.bad("{1a!i8=" + "9" * 1990 + "}", "{1a!i" + "9" * 1990 + "}", '{1a!t9="' + "a" * 1990)

    def test_depth(self):
        def nested(depth, start="{1a!", end="}"):
            return start * (depth - 1) + "{1a!b}" + end * (depth - 1)
        self.good(nested(1), nested(5), nested(6))
        self.bad(nested(7), nested(8))

    def test_depth_counts_choices(self):
        self.good("{1a!<1a!{1a!<1a!{1a!<1a!b>}>}>}")
        self.bad("{1a!<1a!{1a!<1a!{1a!<1a!{1a!b}>}>}>}", "{1a!<1a!<1a!<1a!<1a!<1a!b>>>>>>}")
        self.good("{1a!<1a!<1a!<1a!<1a!<1a!b>>>>>;2b!{1a!{1a!{1a!{1a!{1a!b}}}}}}")

    def test_leaves(self):
        def flat(leaves):
            return "{" + ";".join(f"{k}f{k}!b" for k in range(1, leaves + 1)) + "}"
        self.good(flat(39), flat(40))
        self.bad(flat(41))

    def test_leaves_within_groups_count(self):
        def halves(left, right):
            def fields(many):
                return ";".join(f"{k}f{k}!b" for k in range(1, many + 1))
            return "{1a*{" + fields(left) + "};2b!<" + fields(right) + ">}"
        self.good(halves(20, 20), halves(1, 39))
        self.bad(halves(20, 21), halves(21, 20), halves(40, 1))


class NumbersAndNames(SchemaTest):
    def test_numbers_range(self):
        self.good("{1a!b}", "{10a!b}", "{999a!b}")
        self.bad("{0a!b}", "{1000a!b}", "{01a!b}", "{001a!b}", "{-1a!b}", "{+1a!b}", "{00a!b}", "{9999a!b}")

    def test_numbers_rise(self):
        self.good("{1a!b;2b!b;999c!b}", "{3a!<1x!b;2y!b>;4b!{1x!b}}")
        self.bad("{1a!b;1b!b}", "{2a!b;1b!b}", "{1a!b;3b!b;2c!b}", "{1a!b;2b!<2x!b;1y!b>}", "{1a!{5x!b;5y!b}}")

    def test_names(self):
        self.good("{1a!b}", "{1z!b}", "{1a0_9z_!b}", "{1abcdefghijkl!b}", "{1a__________9!b}")
        self.bad("{1abcdefghijklm!b}", "{1A!b}", "{1_a!b}", "{1aB!b}", "{1a-b!b}", "{1a.b!b}", "{1`!b}", "{1{!b}")
        self.bad("{1a{b!b}", "{1a`b!b}", "{1a/b!b}", "{1a:b!b}", "{1a^b!b}", "{1a`!b}")

    def test_names_differ_within_a_group(self):
        self.good("{1a!{1a!b};2b!<1a!b;2b!b>}", "{1a!b;2aa!b;3a1!b}")
        self.bad("{1a!b;2a!b}", "{1a!b;2b!b;3a!b}", "{1a!{1x!b;2x!b}}", "{1a!<1x!b;2x!b>}")


class Modes(SchemaTest):
    def test_each_mode(self):
        self.good("{1a!b}", "{1a?b}", "{1a*b}", "{1a%{1k!b}}", "{1a?{1k!b}}", "{1a*<1k!b>}")
        self.bad("{1a+b}", "{1a#b}", "{1a!!b}", "{1ab}", "{1a$b}", "{1a&b}", "{1a>b}", "{1a@b}")

    def test_choices_have_only_one_mode(self):
        self.good("{1a?<1x!b;2y!{1z?b}>}", "{1a*<1x!{1y%{1k!i4}}>}")
        self.bad("{1a!<1x?b>}", "{1a!<1x*b>}", "{1a!<1x!b;2y?b>}", "{1a!<1x%{1k!b}>}")

    def test_key(self):
        self.good("{1a%{1k!b}}", "{1a%{1k!i64;2v*b}}", "{1a%{7k!t1;9v!<1x!b>}}", "{1a%{1k!i8=3}}")
        self.bad("{1a%b}", "{1a%i8}", "{1a%t8}", "{1a%<1k!b>}")
        self.bad("{1a%{1k?b}}", "{1a%{1k*b}}", "{1a%{1k!{1x!b}}}", "{1a%{1k!<1x!b>}}", "{1a%{1k%{1x!b}}}")
        self.bad("{1a%{1k?b;2l!b}}")


class Kinds(SchemaTest):
    def test_whole_numbers(self):
        self.good("{1a!i2}", "{1a!i3}", "{1a!i10}", "{1a!i63}", "{1a!i64}")
        self.bad("{1a!i}", "{1a!i0}", "{1a!i1}", "{1a!i65}", "{1a!i02}", "{1a!i-2}", "{1a!i064}", "{1a!i640}")

    def test_texts(self):
        self.good("{1a!t1}", "{1a!t10}", "{1a!t999}")
        self.bad("{1a!t}", "{1a!t0}", "{1a!t1000}", "{1a!t01}", "{1a!t-1}", "{1a!t0001}")

    def test_others(self):
        self.good("{1a!b}")
        self.bad("{1a!b1}", "{1a!b0}", "{1a!c}", "{1a!u8}", "{1a!B}", "{1a!I8}", "{1a!8}", "{1a!(1b!b)}")


class Defaults(SchemaTest):
    def test_where_they_may_stand(self):
        self.good("{1a!b=0}", "{1a!i8=5}", '{1a!t3="x"}', "{1a!{1x!b=1}}", "{1a?{1x!b=1}}", "{1a*{1x!b=1}}")
        self.good("{1a%{1k!i8;2v!b=1}}", "{1a!<1x!{1y!i8=0}>}", "{1a!b=0;2b!b=1}")

    def test_where_they_may_not(self):
        self.bad("{1a?b=0}", "{1a*i8=5}", "{1a!<1x!b=0>}", "{1a!<1x!b;2y!i8=1>}", "{1a!<1x!b>=0}")
        self.bad("{1a!{1x!b}=0}", "{1a!{1x!b}={x:0}}", "{1a!<1x!b>=<x:0>}", "{1a%{1k!b}=0}", "{1a!{1x!b}=}")
        self.bad("{1a!b=}", "{1a!b==0}", "{1a!b=0=0}", "{1a=0!b}", '{1a!t3=}', "{1a!i8=5;=6}")

    def test_bits(self):
        self.good("{1a!b=0}", "{1a!b=1}")
        self.bad("{1a!b=2}", "{1a!b=-1}", "{1a!b=00}", "{1a!b=01}", "{1a!b=-0}", '{1a!b="0"}', "{1a!b=10}")

    def test_whole_numbers(self):
        self.good("{1a!i8=0}", "{1a!i8=127}", "{1a!i8=-128}", "{1a!i2=1}", "{1a!i2=-2}", "{1a!i8=-1}")
        self.good("{1a!i64=9223372036854775807}", "{1a!i64=-9223372036854775808}")
        self.bad("{1a!i8=128}", "{1a!i8=-129}", "{1a!i2=2}", "{1a!i2=-3}", "{1a!i8=-0}", "{1a!i8=00}", "{1a!i8=07}")
        self.bad("{1a!i64=9223372036854775808}", "{1a!i64=-9223372036854775809}", "{1a!i8=-}", "{1a!i8=--1}")
        self.bad("{1a!i8=+1}", "{1a!i8=-01}", '{1a!i8="1"}', "{1a!i8=1.0}", "{1a!i8=a}", "{1a!i8=-07}")
        self.bad("{1a!i64=18446744073709551616}", "{1a!i64=18446744073709551617}")

    def test_texts(self):
        self.good('{1a!t1=""}', '{1a!t3="abc"}', '{1a!t9=" !#$%&;}"}', '{1a!t9="[]~{=<>,:"}')
        self.bad('{1a!t3="abcd"}', '{1a!t3=abc}', '{1a!t3="abc}', '{1a!t3=abc"}', '{1a!t3="ab""}', "{1a!t3='a'}")

    def test_bytes_by_their_numbers(self):
        self.good('{1a!t1="\\22"}', '{1a!t1="\\5c"}', '{1a!t2="\\00\\ff"}', '{1a!t2="\\1f\\7f"}', '{1a!t1="\\80"}')
        self.bad('{1a!t9="\\61"}', '{1a!t9="\\20"}', '{1a!t9="\\7e"}', '{1a!t9="\\FF"}', '{1a!t9="\\fF"}')
        self.bad('{1a!t9="\\5C"}', '{1a!t9="\\2"}', '{1a!t9="\\"}', '{1a!t9="\\\\"}', '{1a!t9="\\""}')
        self.bad('{1a!t9="\\g0"}', '{1a!t9="\\0g"}', '{1a!t9="\\n"}', '{1a!t9="\\x00"}', '{1a!t9="\\0', '{1a!t9="\\')

    def test_each_byte_has_just_one_form(self):
        for byte in range(256):
            plain = is_schema(list(b'{1a!t1="') + [byte] + list(b'"}'))
            numbered = is_schema('{1a!t1="\\%02x"}' % byte)
            # Only one sign leads in a byte's number.
            led_in = is_schema(list(b'{1a!t3="') + [byte] + list(b'00"}'))
            itself = 32 <= byte <= 126 and byte not in b'"\\'
            self.assertEqual((plain, numbered), (itself, not itself), byte)
            self.assertEqual(led_in, itself or byte == ord("\\"), byte)

    def test_length_is_counted_in_bytes(self):
        self.good('{1a!t2="\\00\\01"}', '{1a!t999="' + "\\00" * 600 + '"}')
        self.bad('{1a!t2="\\00\\01\\02"}', '{1a!t1="\\00a"}')


if __name__ == "__main__":
    unittest.main()
