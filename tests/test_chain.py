"""Promises 2, 3, 5 and 6, the order of refusals, and the interface itself."""

import unittest

from growingschemas.chain import answers
from tests.helper import NINE_LEAVES, NINE_LEAVES_ROW, ask, begin, compare, drop, last, origin, put, read, row, rows
from tests.helper import show, step, straight, text_of, through, told, versions, why

FAR = 10 ** 18


class NoVersions(unittest.TestCase):
    NUMBERS = (0, 1, -1, FAR, -FAR)

    def all_other_calls(self):
        """Such as would be refused for something else, too."""
        calls = [versions(), rows()]
        calls += [call(text) for call in (step, why, put) for text in ("{1a!b}", "{a:1}", "{}", "", [0] * 5000)]
        calls += [call(number) for call in (show, row, origin, drop) for number in self.NUMBERS]
        pairs = [(0, 0), (0, 1), (1, 0), (-FAR, FAR)]
        calls += [call(i, j) for call in (compare, straight) for i, j in pairs]
        calls += [call(i, j, text) for call in (read, through) for i, j in pairs for text in ("{a:1}", "{}", "")]
        self.assertEqual({call[0] for call in calls}, set(range(1, 14)))
        return calls

    def test_before_begin(self):
        for call in self.all_other_calls():
            with self.subTest(call=call[:4]):
                self.assertEqual(ask(call), [[-2]])

    def test_behind_a_refused_begin(self):
        for call in self.all_other_calls():
            with self.subTest(call=call[:4]):
                self.assertEqual(ask(begin("{1a!b"), call, begin(""), call), [[-1], [-2], [-1], [-2]])

    def test_changes_nothing(self):
        calls = [put("{a:1}"), step("{1a!b}"), begin("{1a!b}"), rows(), versions(), put("{a:1}")]
        self.assertEqual(ask(*calls), [[-2], [-2], [0], [0], [1], [0]])

    def test_none_behind_begin(self):
        for call in self.all_other_calls():
            with self.subTest(call=call[:4]):
                self.assertNotEqual(last(begin("{1a!b}"), call), [-2])
                self.assertNotEqual(last(begin("{1a!b}"), begin("{1a!"), call), [-2])


class Step(unittest.TestCase):
    def test_numbers_the_versions(self):
        self.assertEqual(ask(begin("{1a!b}"), step("{1a!i2}"), step("{1a!i8}"), step("{1a?i8}")), [[0], [1], [2], [3]])

    def test_refuses_what_is_no_schema(self):
        calls = [begin("{1a!b}"), step(""), step("{1a!b} "), step("{1a!i1}"), versions()]
        self.assertEqual(ask(*calls), [[0], [-1], [-1], [-1], [1]])

    def test_is_against_the_last_version(self):
        calls = [begin("{1a!i8}"), step("{1a?i8}"), step("{1a!i8}"), step("{1a*i8}"), step("{1a?i8}"), versions()]
        self.assertEqual(ask(*calls), [[0], [1], [-15], [2], [-16], [3]])

    def test_obstacle_leaves_all_as_it_was(self):
        split = ask(begin("{1a!i8}"), step("{1a!i4}"), versions(), show(0), show(1), step("{1a!i9}"), show(1))
        self.assertEqual(split[1:3], [[-12], [1]])
        self.assertEqual([text_of(split[3]), text_of(split[4])], ["{1a!i8}", -3])
        self.assertEqual([split[5], text_of(split[6])], [[1], "{1a!i9}"])

    def test_sixteen_versions(self):
        chain = [begin("{1a!i8}")] + [step(f"{{1a!i{8 + k}}}") for k in range(1, 16)]
        self.assertEqual(ask(*chain), [[k] for k in range(16)])
        self.assertEqual(last(*chain, versions()), [16])
        split = ask(*chain, step("{1a!i30}"), step("{1a!i8}"), step("{1a!i8"), versions(), show(15), show(16))
        self.assertEqual(split[16:20], [[-5], [-5], [-1], [16]])
        self.assertEqual([text_of(split[20]), split[21]], ["{1a!i23}", [-3]])

    def test_why_goes_on_with_sixteen_versions(self):
        chain = [begin("{1a!i8}")] + [step(f"{{1a!i{8 + k}}}") for k in range(1, 16)]
        self.assertEqual(last(*chain, why("{1a!i30}")), [0, 0, 0])
        self.assertEqual(last(*chain, why("{1a!i2}")), told(2, [1], "{a:2}"))

    def test_begins_again_behind_sixteen(self):
        chain = [begin("{1a!i8}")] + [step("{1a!i8}")] * 15
        self.assertEqual(ask(*chain, begin("{1a!b}"), step("{1a!i2}"), versions())[16:], [[0], [1], [2]])


class Versions(unittest.TestCase):
    def test_how_many(self):
        calls = [begin("{1a!b}"), versions(), step("{1b?b}"), versions(), step("{1b!b}"), versions()]
        self.assertEqual(ask(*calls), [[0], [1], [1], [2], [-15], [2]])


class Show(unittest.TestCase):
    def test_text_with_its_length(self):
        self.assertEqual(last(begin("{1a!b}"), show(0)), [6] + list(b"{1a!b}"))
        self.assertEqual(text_of(last(begin(NINE_LEAVES), show(0))), NINE_LEAVES)

    def test_each_version(self):
        split = ask(begin("{1a!b}"), step("{1z!i9}"), step("{1z!i9;3q?b}"), show(2), show(0), show(1))
        self.assertEqual([text_of(answer) for answer in split[3:]], ["{1z!i9;3q?b}", "{1a!b}", "{1z!i9}"])

    def test_longest(self):
        text = '{1a!t999="' + "x" * 999 + '";2b!t999="' + "y" * 977 + '"}'
        self.assertEqual(len(text), 2000 - 1)
        self.assertEqual(text_of(last(begin(text), show(0))), text)

    def test_no_such_version(self):
        calls = [show(1), show(2), show(-1), show(-2), show(FAR), show(-FAR), show(16)]
        self.assertEqual(ask(begin("{1a!b}"), *calls)[1:], [[-3]] * 7)


class Interface(unittest.TestCase):
    def line(self):
        calls = [begin(NINE_LEAVES), step("{1id!i64}"), why("{1id!i8}"), versions(), show(1), compare(1, 0)]
        calls += [read(0, 1, NINE_LEAVES_ROW), read(0, 0, NINE_LEAVES_ROW), read(0, 1, "{}"), put("{id:1}"), put("{id:2}")]
        calls += [step('{1id!i64;2new!t3="q"}'), through(0, 2, NINE_LEAVES_ROW), straight(0, 2), rows(), row(0), origin(1)]
        calls += [drop(0), row(0), origin(0), rows(), begin("{1a!b}"), show(0), rows()]
        return [number for call in calls for number in call]

    def test_written_number_by_number(self):
        line = [0, 6, 123, 49, 97, 33, 98, 125, 1, 7, 123, 49, 97, 33, 105, 50, 125]
        line += [2, 6, 123, 49, 97, 33, 98, 125, 3, 4, 0, 4, 2, 5, 0, 1, 5, 1, 0]
        line += [6, 0, 1, 5, 123, 97, 58, 49, 125, 6, 1, 0, 6, 123, 97, 58, 45, 50, 125]
        row = [123, 97, 58, 48, 125]
        expected = [1, 0, 1, 1, 4 + len(row), 1, 1, 1, len(row)] + row
        expected += [1, 2, 7, 6, 123, 49, 97, 33, 98, 125, 1, -3, 3, 0, 0, 0]
        expected += [9, 1, 1, 1, 5] + row + [6, 5, 123, 97, 58, 49, 125, 1, -6]
        self.assertEqual(answers(line), expected)

    def test_rows_and_ways_written_number_by_number(self):
        line = [0, 6, 123, 49, 97, 33, 98, 125, 9, 5, 123, 97, 58, 49, 125, 1, 7, 123, 49, 98, 33, 105, 50, 125]
        line += [7, 0, 1, 5, 123, 97, 58, 49, 125, 8, 0, 1, 8, 1, 0, 9, 6, 123, 98, 58, 45, 50, 125, 10]
        line += [11, 0, 11, 2, 12, 0, 12, 1, 12, -1, 13, 0, 12, 0, 10, 13, 1]
        expected = [1, 0, 1, 0, 1, 1, 6, 5, 123, 98, 58, 49, 125, 1, 1, 1, -3, 1, 1, 1, 2]
        expected += [6, 5, 123, 98, 58, 49, 125, 1, -3, 7, 0, 5, 123, 97, 58, 49, 125]
        expected += [8, 1, 6, 123, 98, 58, 45, 50, 125, 1, -3, 1, 0, 8, 1, 6, 123, 98, 58, 45, 50, 125, 1, 1, 1, -3]
        self.assertEqual(answers(line), expected)

    def test_is_not_changed_and_answers_the_same_again(self):
        line = self.line()
        before = list(line)
        first = answers(line)
        self.assertEqual(line, before)
        kept = list(first)
        answers([0, 6, 123, 49, 97, 33, 98, 125])
        first.append(7)
        self.assertEqual(answers(line), kept)
        self.assertEqual(line, before)

    def test_nothing_is_kept(self):
        answers(begin("{1a!b}") + put("{a:1}"))
        self.assertEqual([answers(versions()), answers(rows())], [[1, -2]] * 2)
        self.assertEqual(ask(begin("{1a!b}"), versions(), rows(), row(0)), [[0], [1], [0], [-3]])

    def test_whole_numbers_only(self):
        answered = answers(self.line())
        self.assertIs(type(answered), list)
        self.assertEqual([number for number in answered if type(number) is not int], [])

    def test_many_calls(self):
        self.assertEqual(ask(begin("{1a!b}"), *[versions()] * 239), [[0]] + [[1]] * 239)


if __name__ == "__main__":
    unittest.main()
