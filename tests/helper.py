"""Calls written with texts, and their answers split call by call."""

from growingschemas.chain import answers

NINE_LEAVES = (
    "{1id!i32;2name?t20;3tags*t8;4pos?{1x!i16=0;2y!i16};"
    "5shape!<1dot!b;2line!{1len!i8}>;6attr%{1key!t4;2val?i32}}"
)
NINE_LEAVES_ROW = (
    '{id:5;tags:"a","b\\22";pos:{x:-1;y:2};shape:<line:{len:7}>;attr:{key:"a"},{key:"b";val:3}}'
)

# A version that has none of the other schemas' fields: behind it any schema may come that needs no field.
BRIDGE = "{999bridge?b}"


def signs(text):
    if isinstance(text, str):
        return list(text.encode("latin-1"))
    return list(text)


def counted(text):
    return [len(signs(text))] + signs(text)


def begin(text):
    return [0] + counted(text)


def step(text):
    return [1] + counted(text)


def why(text):
    return [2] + counted(text)


def versions():
    return [3]


def show(version):
    return [4, version]


def compare(i, j):
    return [5, i, j]


def read(i, j, text):
    return [6, i, j] + counted(text)


def through(i, j, text):
    return [7, i, j] + counted(text)


def straight(i, j):
    return [8, i, j]


def put(text):
    return [9] + counted(text)


def rows():
    return [10]


def row(number):
    return [11, number]


def origin(number):
    return [12, number]


def drop(number):
    return [13, number]


def ask(*calls):
    """One list of numbers for each call."""
    line = [number for call in calls for number in call]
    answered = answers(line)
    split = []
    place = 0
    while place < len(answered):
        split.append(answered[place + 1:place + 1 + answered[place]])
        place += 1 + answered[place]
    assert place == len(answered) and len(split) == len(calls)
    return split


def last(*calls):
    return ask(*calls)[-1]


def told(number, path, row):
    """What why and compare answer of this obstacle."""
    return [number, len(path)] + list(path) + counted(row)


def text_of(answer):
    """The text that show, read, through or row answered, or the number of the refusal."""
    if answer[0] < 0:
        assert len(answer) == 1
        return answer[0]
    assert answer[0] == len(answer) - 1
    return bytes(answer[1:]).decode("latin-1")


def origin_of(answer):
    """The version and the text that origin answered, or the number of the refusal."""
    if answer[0] < 0:
        return text_of(answer)
    return answer[0], text_of(answer[1:])


def long_row(length):
    """A text of this many bytes, from 3100 to 4005; were its length let, it would be a row's of {1a*t999}."""
    head = "{a:" + ",".join(['"' + "x" * 997 + '"'] * 3) + ',"'
    text = head + "x" * (length - len(head) - 2) + '"}'
    assert len(text) == length
    return text


def read_between(old, new, row):
    """The row of the old schema as the new one reads it, whatever obstacles there are."""
    split = ask(begin(old), step(BRIDGE), step(new), read(0, 2, row))
    assert split[2] == [2], "no field may be needed at the top of the new schema"
    return text_of(split[3])


def is_schema(text):
    answer = last(begin(text))
    assert answer in ([0], [-1])
    return answer == [0]


def is_row(schema, text):
    """Whether it's a row's text; a row of a version is read by the same version as it is."""
    answer = text_of(last(begin(schema), read(0, 0, text)))
    assert answer == -1 or signs(answer) == signs(text)
    return answer != -1
