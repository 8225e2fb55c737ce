"""Promises 11 to 15, and what begin does to the rows: rows put, told, read on and taken out."""

import unittest

from tests.helper import NINE_LEAVES, NINE_LEAVES_ROW, ask, begin, drop, last, long_row, origin, origin_of, put, read, row
from tests.helper import rows, signs, step, text_of, through, versions

FAR = 10 ** 18


def texts(split):
    return [text_of(answer) for answer in split]


def origins(split):
    return [origin_of(answer) for answer in split]


class Put(unittest.TestCase):
    def test_numbers_the_rows(self):
        calls = [begin("{1a!i8}"), put("{a:1}"), put("{a:2}"), put("{a:1}"), rows()]
        self.assertEqual(ask(*calls), [[0], [0], [1], [2], [3]])

    def test_refuses_what_is_no_rows_text(self):
        wrong = ["", "{}", "{a:1", "{a:1}}", "{a:128}", "{b:1}", "{a:1,1}", "{1a!i8}", "<a:1>", " {a:1}", [0], [255] * 5000]
        calls = [begin("{1a!i8}"), put("{a:7}")] + [put(text) for text in wrong] + [rows(), row(0), row(1), put("{a:8}")]
        split = ask(*calls)
        self.assertEqual(split[2:2 + len(wrong)], [[-1]] * len(wrong))
        self.assertEqual(split[-4:], [[1], [5] + signs("{a:7}"), [-3], [1]])

    def test_is_of_the_last_version(self):
        calls = [begin("{1a!i8}"), put("{a:1}"), step("{1b!i9}"), put("{a:1}"), put("{b:1}"), put("{b:255}")]
        calls += [step("{1b!i9;2c!b}"), put("{b:3}"), step("{1b!i9;2c!b=0}"), put("{b:3}"), put("{b:3;c:1}")]
        self.assertEqual(ask(*calls)[3:], [[-1], [1], [2], [-14], [3], [2], [-1], [4]])

    def test_length(self):
        calls = [begin("{1a*t999}"), put(long_row(4000)), put(long_row(4001)), origin(0), row(0), rows()]
        split = ask(*calls)
        self.assertEqual(split[1:3] + split[5:], [[0], [-1], [1]])
        self.assertEqual(origin_of(split[3]), (0, long_row(4000)))
        self.assertEqual(text_of(split[4]), long_row(4000))

    def test_hundred_rows(self):
        full = [begin("{1a!i16}")] + [put("{a:%d}" % k) for k in range(100)]
        split = ask(*full, put("{a:100}"), put("{b:100}"), put(""), rows(), row(99), row(100), row(0))
        self.assertEqual(split[1:101], [[k] for k in range(100)])
        self.assertEqual(split[101:105], [[-4], [-1], [-1], [100]])
        self.assertEqual(texts(split[105:]), ["{a:99}", -3, "{a:0}"])

    def test_room_behind_a_hundred_rows(self):
        full = [begin("{1a!i16}")] + [put("{a:%d}" % k) for k in range(100)]
        split = ask(*full, drop(99), put("{a:200}"), put("{a:1}"), drop(0), put("{a:201}"), row(98), row(99), rows(),
                    put("{a:1}"))
        self.assertEqual(split[101:106], [[0], [99], [-4], [0], [99]])
        self.assertEqual(texts(split[106:108]), ["{a:200}", "{a:201}"])
        self.assertEqual(split[108:], [[100], [-4]])

    def test_hundred_rows_then_steps(self):
        full = [begin("{1a!i16}")] + [put("{a:%d}" % k) for k in range(100)]
        split = ask(*full, step("{1b!i16;2c!b=1}"), put("{b:1;c:1}"), put("{a:1}"), row(99), origin(99))
        self.assertEqual(split[101:104], [[1], [-4], [-1]])
        self.assertEqual([text_of(split[104]), origin_of(split[105])], ["{b:99;c:1}", (0, "{a:99}")])


class Rows(unittest.TestCase):
    def test_how_many(self):
        calls = [begin("{1a!i8}"), rows(), put("{a:1}"), rows(), put("{a:1}"), rows(), put("no"), rows(), drop(0), rows(),
                 drop(1), rows(), drop(0), rows(), step("{1a?i8}"), rows()]
        self.assertEqual(ask(*calls)[1::2], [[0], [1], [2], [2], [1], [1], [0], [0]])


class Row(unittest.TestCase):
    def test_without_a_step(self):
        split = ask(begin(NINE_LEAVES), put(NINE_LEAVES_ROW), row(0), row(0))
        self.assertEqual(texts(split[2:]), [NINE_LEAVES_ROW] * 2)
        self.assertEqual(split[2][0], len(NINE_LEAVES_ROW))

    def test_is_read_on_with_each_step(self):
        calls = [begin("{1g*{1x!b}}"), put("{g:{x:0},{x:1}}"), row(0), step("{1h*{1x!b;2n!i8=-3}}"), row(0),
                 step("{1h*{1xx?i2;2n!i9=4;3o!t2=\"q\"};2p?b}"), row(0), step("{1h*{2n*i9;3o!t2}}"), row(0), row(0)]
        self.assertEqual(texts(ask(*calls)[2::2] + ask(*calls)[-1:]),
                         ["{g:{x:0},{x:1}}", "{h:{x:0;n:-3},{x:1;n:-3}}", '{h:{xx:0;n:-3;o:"q"},{xx:1;n:-3;o:"q"}}',
                          '{h:{n:-3;o:"q"},{n:-3;o:"q"}}', '{h:{n:-3;o:"q"},{n:-3;o:"q"}}'])

    def test_answers_the_same_whether_or_not_it_was_asked_before(self):
        steps = ["{1a!i8;2b!b=0}", "{1a!i8;2b!b=1;3c!{1d!b=1}}", "{1a!i8;3c?{1d!i8=5;2e!b=0}}", "{3c?{1d!i8=5;2e!b=1}}"]
        often = [begin("{1a!i8}"), put("{a:1}"), row(0)]
        for text in steps:
            often += [step(text), row(0), row(0)]
        seldom = [begin("{1a!i8}"), put("{a:1}")] + [step(text) for text in steps] + [row(0)]
        self.assertEqual(last(*often), last(*seldom))
        self.assertEqual(text_of(last(*often)), "{c:{d:1;e:0}}")

    def test_version_by_version_not_straight(self):
        chain = [begin("{1a!i8;2b?i8}"), put("{a:1;b:2}"), step("{1a!i8;3c!b=0}"), step("{1a!i8;2b?i8;3c!b=1}")]
        split = ask(*chain, row(0), through(0, 2, "{a:1;b:2}"), read(0, 2, "{a:1;b:2}"))
        self.assertEqual(texts(split[4:]), ["{a:1;c:0}", "{a:1;c:0}", "{a:1;b:2;c:1}"])

    def test_rows_of_different_versions(self):
        calls = [begin("{1a!i8}"), put("{a:1}"), step("{1a!i8;2b!i8=10}"), put("{a:2;b:2}"), put("{a:3;b:3}"),
                 step("{1a!i8;3c!i8=20}"), put("{a:4;c:4}"), step("{1z!i9;2b!i8=30;3c!i8=40}"), put("{z:5;b:5;c:5}")]
        split = ask(*calls, *[row(k) for k in range(6)], *[origin(k) for k in range(6)])[len(calls):]
        self.assertEqual(texts(split[:6]), ["{z:1;b:30;c:20}", "{z:2;b:30;c:20}", "{z:3;b:30;c:20}", "{z:4;b:30;c:4}",
                                            "{z:5;b:5;c:5}", -3])
        self.assertEqual(origins(split[6:]), [(0, "{a:1}"), (1, "{a:2;b:2}"), (1, "{a:3;b:3}"), (2, "{a:4;c:4}"),
                                              (3, "{z:5;b:5;c:5}"), -3])

    def test_over_all_sixteen_versions(self):
        schemas = ["{" + ";".join(f"{n}f{n}!i{8 + k}={n}" for n in range(1, k + 2)) + "}" for k in range(16)]
        calls = [begin(schemas[0]), put("{f1:-7}")] + [step(schema) for schema in schemas[1:]]
        expected = "{f1:-7;" + ";".join(f"f{n}:{n}" for n in range(2, 17)) + "}"
        split = ask(*calls, row(0), put(expected), origin(1), row(1))
        self.assertEqual(split[-3], [1])
        self.assertEqual([text_of(split[-4]), origin_of(split[-2]), text_of(split[-1])], [expected, (15, expected), expected])

    def test_refused_step_changes_nothing(self):
        calls = [begin("{1a!i8}"), put("{a:1}"), step("{1a!i7}"), row(0), step("{1b!i8"), row(0), step("{1b!i8}"), row(0)]
        self.assertEqual(texts(ask(*calls)[3::2]), ["{a:1}", "{a:1}", "{b:1}"])

    def test_answer_may_be_longer_than_a_row(self):
        short = "{a:" + ",".join(["{}"] * 1332) + "}"
        expected = "{a:" + ",".join(['{y:"' + "z" * 900 + '"}'] * 1332) + "}"
        calls = [begin("{1a*{1x?b}}"), put(short), step('{1a*{1x?b;2y!t900="' + "z" * 900 + '"}}'), row(0), origin(0)]
        split = ask(*calls)
        self.assertEqual([text_of(split[3]), origin_of(split[4])], [expected, (0, short)])

    def test_a_heavy_row_asked_for_many_times(self):
        wide = "{1a*{1z?b;" + ";".join(f"{k}f{k}!b=0" for k in range(2, 40)) + "}}"
        heavy = "{a:" + ",".join(["{}"] * 400) + "}"
        calls = [begin("{1a*{1z?b}}"), put(heavy)] + [step(wide)] * 14 + [step("{1a*{1z?b}}")] + [row(0)] * 223
        self.assertEqual(ask(*calls)[17:], [[len(heavy)] + signs(heavy)] * 223)

    def test_no_such_row(self):
        numbers = [1, 2, -1, -2, 100, 99, FAR, -FAR]
        split = ask(begin("{1a!i8}"), row(0), put("{a:1}"), *[row(k) for k in numbers], row(0))
        self.assertEqual(split[1], [-3])
        self.assertEqual(split[3:-1], [[-3]] * len(numbers))
        self.assertEqual(text_of(split[-1]), "{a:1}")


class Origin(unittest.TestCase):
    def test_version_and_text_as_it_was_put(self):
        calls = [begin("{1a!i8}"), put("{a:1}"), origin(0), step("{1b?i8}"), put("{}"), row(0), row(1), origin(0), origin(1)]
        split = ask(*calls)
        self.assertEqual(split[2], [0, 5] + signs("{a:1}"))
        self.assertEqual(split[7], [0, 5] + signs("{a:1}"))
        self.assertEqual(split[8], [1, 2] + signs("{}"))

    def test_stays_however_far_it_was_read_on(self):
        calls = [begin("{1a!i8;2b?b}"), put("{a:1;b:0}"), step("{1c!i8}"), row(0), origin(0), step("{1d?i8;2b!b=1}"),
                 row(0), origin(0), row(0)]
        split = ask(*calls)
        self.assertEqual([origin_of(split[4]), origin_of(split[7])], [(0, "{a:1;b:0}")] * 2)
        self.assertEqual(texts([split[3], split[6], split[8]]), ["{c:1}", "{d:1;b:1}", "{d:1;b:1}"])

    def test_no_such_row(self):
        numbers = [1, 2, -1, -2, 100, 99, FAR, -FAR]
        split = ask(begin("{1a!i8}"), origin(0), put("{a:1}"), *[origin(k) for k in numbers], origin(0))
        self.assertEqual(split[1], [-3])
        self.assertEqual(split[3:-1], [[-3]] * len(numbers))
        self.assertEqual(origin_of(split[-1]), (0, "{a:1}"))


class Drop(unittest.TestCase):
    def left(self, *dropped):
        calls = [begin("{1a!i8}")] + [put("{a:%d}" % k) for k in range(5)] + [drop(k) for k in dropped]
        split = ask(*calls, rows(), *[row(k) for k in range(5)])
        self.assertEqual(split[6:-6], [[0]] * len(dropped))
        found = [int(text[3:-1]) for text in texts(split[-5:]) if text != -3]
        self.assertEqual(split[-6], [len(found)])
        return found

    def test_those_behind_move_to_the_front(self):
        self.assertEqual(self.left(), [0, 1, 2, 3, 4])
        self.assertEqual(self.left(0), [1, 2, 3, 4])
        self.assertEqual(self.left(4), [0, 1, 2, 3])
        self.assertEqual(self.left(2), [0, 1, 3, 4])
        self.assertEqual(self.left(1, 1), [0, 3, 4])
        self.assertEqual(self.left(3, 0, 2), [1, 2])
        self.assertEqual(self.left(0, 0, 0, 0, 0), [])

    def test_rows_keep_their_versions(self):
        calls = [begin("{1a!i8}"), put("{a:1}"), put("{a:2}"), step("{1b!i9}"), put("{b:3}"), row(0), row(1), drop(0),
                 origin(0), origin(1), origin(2), row(0), row(1), row(2), step("{1c?i9}"), row(0), row(1), drop(1),
                 put("{c:4}"), origin(1), row(0), row(1)]
        split = ask(*calls)
        self.assertEqual(origins(split[8:11]), [(0, "{a:2}"), (1, "{b:3}"), -3])
        self.assertEqual(texts(split[11:14] + split[15:17]), ["{b:2}", "{b:3}", -3, "{c:2}", "{c:3}"])
        self.assertEqual(split[17:19], [[0], [1]])
        self.assertEqual([origin_of(split[19])] + texts(split[20:]), [(2, "{c:4}"), "{c:2}", "{c:4}"])

    def test_next_row_is_put_behind_the_last(self):
        split = ask(begin("{1a!i8}"), put("{a:1}"), put("{a:2}"), drop(0), put("{a:3}"), row(0), row(1), row(2))
        self.assertEqual(split[4], [1])
        self.assertEqual(texts(split[5:]), ["{a:2}", "{a:3}", -3])

    def test_no_such_row(self):
        numbers = [2, 3, -1, -2, 100, 99, FAR, -FAR]
        split = ask(begin("{1a!i8}"), drop(0), put("{a:1}"), put("{a:2}"), *[drop(k) for k in numbers], rows(), row(0), row(1))
        self.assertEqual(split[1], [-3])
        self.assertEqual(split[4:-3], [[-3]] * len(numbers))
        self.assertEqual([split[-3]] + texts(split[-2:]), [[2], "{a:1}", "{a:2}"])

    def test_the_same_twice(self):
        self.assertEqual(ask(begin("{1a!i8}"), put("{a:1}"), drop(0), drop(0), rows())[2:], [[0], [-3], [0]])

    def test_versions_stay(self):
        self.assertEqual(last(begin("{1a!i8}"), step("{1a!i8}"), put("{a:1}"), drop(0), versions()), [2])


class BeginWithRows(unittest.TestCase):
    START = [begin("{1a!i8}"), put("{a:1}"), step("{1b!i8}"), put("{b:2}")]

    def test_takes_all_rows_and_other_versions(self):
        calls = [begin("{1z!i8}"), rows(), versions(), row(0), origin(0), drop(0), put("{z:3}"), row(0), origin(0), rows()]
        split = ask(*self.START, *calls)[4:]
        self.assertEqual(split[:7], [[0], [0], [1], [-3], [-3], [-3], [0]])
        self.assertEqual([text_of(split[7]), origin_of(split[8]), split[9]], ["{z:3}", (0, "{z:3}"), [1]])

    def test_same_schema_takes_them_too(self):
        self.assertEqual(ask(*self.START, begin("{1b!i8}"), rows(), versions())[4:], [[0], [0], [1]])

    def test_refused_takes_nothing(self):
        calls = [begin("{1z!i8"), begin(""), rows(), versions(), row(0), row(1), origin(0), origin(1)]
        split = ask(*self.START, *calls)[4:]
        self.assertEqual(split[:4], [[-1], [-1], [2], [2]])
        self.assertEqual(texts(split[4:6]) + origins(split[6:]), ["{b:1}", "{b:2}", (0, "{a:1}"), (1, "{b:2}")])

    def test_room_for_a_hundred_again(self):
        full = [put("{a:1}")] * 100
        self.assertEqual(ask(begin("{1a!i8}"), *full, begin("{1a!i8}"), *full, put("{a:1}"))[102:],
                         [[k] for k in range(100)] + [[-4]])


if __name__ == "__main__":
    unittest.main()
