"""The chain of versions with its rows, and the calls on it as lists of whole numbers."""

from growingschemas.obstacles import first_obstacle, obstacle_row
from growingschemas.reading import read_row
from growingschemas.refusals import BadText, ChainFull, NoSuchRow, NoSuchVersion, NoVersions, Obstructed, RowsFull
from growingschemas.refusals import Unreadable
from growingschemas.rows import parse_row, row_text
from growingschemas.schemas import parse_schema
from growingschemas.ways import is_straight, read_along

MOST_VERSIONS = 16
MOST_ROWS = 100


class Chain:
    def __init__(self):
        self.schemas = []
        self.rows = []

    def last_version(self):
        return len(self.schemas) - 1

    def last_schema(self):
        return self.schemas[self.last_version()]

    def schema_at(self, version):
        if version < 0 or version >= len(self.schemas):
            raise NoSuchVersion("there's no such version")
        return self.schemas[version]

    def way(self, start, end):
        self.schema_at(start)
        self.schema_at(end)
        if end < start:
            raise NoSuchVersion("a way doesn't lead back")
        return self.schemas[start:end + 1]

    def row_at(self, place):
        if place < 0 or place >= len(self.rows):
            raise NoSuchRow("there's no such row")
        return self.rows[place]


# A row as it was put, and how far it has been read on: what it is in that version.
# So no version reads it twice, however often it is asked for.
class KeptRow:
    def __init__(self, version, text, value):
        self.version = version
        self.text = text
        self.reached = version
        self.value = value

    def read_on(self, chain):
        last = chain.last_version()
        self.value = read_along(self.value, chain.way(self.reached, last))
        self.reached = last


# A call's own whole numbers, and its text if it has one.
class Call:
    def __init__(self, number, numbers, text):
        self.number = number
        self.numbers = numbers
        self.text = text


def begin(chain, call):
    schema = parse_schema(call.text)
    chain.schemas = [schema]
    chain.rows = []
    return [0]


def step(chain, call):
    schema = parse_schema(call.text)
    if len(chain.schemas) >= MOST_VERSIONS:
        raise ChainFull("there are as many versions as may be")
    obstacle = first_obstacle(chain.last_schema(), schema)
    if obstacle is not None:
        raise Obstructed(obstacle.number)
    chain.schemas.append(schema)
    return [chain.last_version()]


def why(chain, call):
    return tell_obstacle(chain.last_schema(), parse_schema(call.text))


def versions(chain, call):
    return [len(chain.schemas)]


def show(chain, call):
    return counted(chain.schema_at(call.numbers[0]).text)


def compare(chain, call):
    old = chain.schema_at(call.numbers[0])
    new = chain.schema_at(call.numbers[1])
    return tell_obstacle(old, new)


def read(chain, call):
    old = chain.schema_at(call.numbers[0])
    new = chain.schema_at(call.numbers[1])
    value = parse_row(call.text, old)
    return counted(row_text(read_row(value, old, new), new))


def through(chain, call):
    way = chain.way(call.numbers[0], call.numbers[1])
    value = parse_row(call.text, way[0])
    return counted(row_text(read_along(value, way), way[len(way) - 1]))


def straight(chain, call):
    if is_straight(chain.way(call.numbers[0], call.numbers[1])):
        return [1]
    return [0]


def put(chain, call):
    value = parse_row(call.text, chain.last_schema())
    if len(chain.rows) >= MOST_ROWS:
        raise RowsFull("there are as many rows as may be")
    chain.rows.append(KeptRow(chain.last_version(), call.text, value))
    return [len(chain.rows) - 1]


def rows(chain, call):
    return [len(chain.rows)]


def row(chain, call):
    kept = chain.row_at(call.numbers[0])
    kept.read_on(chain)
    return counted(row_text(kept.value, chain.last_schema()))


def origin(chain, call):
    kept = chain.row_at(call.numbers[0])
    return [kept.version] + counted(kept.text)


def drop(chain, call):
    place = call.numbers[0]
    chain.row_at(place)
    chain.rows.pop(place)
    return [0]


def tell_obstacle(old, new):
    obstacle = first_obstacle(old, new)
    if obstacle is None:
        return [0, 0, 0]
    text = row_text(obstacle_row(old, obstacle), old)
    return [obstacle.number] + counted(obstacle.path) + counted(text)


def counted(numbers):
    return [len(numbers)] + numbers


# A call's number is its place here. Behind what answers it: how many whole numbers it has, whether it has a text.
CALLS = (
    (begin, 0, True),
    (step, 0, True),
    (why, 0, True),
    (versions, 0, False),
    (show, 1, False),
    (compare, 2, False),
    (read, 2, True),
    (through, 2, True),
    (straight, 2, False),
    (put, 0, True),
    (rows, 0, False),
    (row, 1, False),
    (origin, 1, False),
    (drop, 1, False),
)
BEGIN = 0


def answers(calls):
    chain = Chain()
    answered = []
    place = 0
    while place < len(calls):
        call = call_at(calls, place)
        place += length_of(call)
        answer = answer_or_refusal(chain, call)
        answered.append(len(answer))
        answered.extend(answer)
    return answered


def call_at(calls, place):
    number = calls[place]
    behind_numbers = place + 1 + CALLS[number][1]
    text = None
    if CALLS[number][2]:
        start = behind_numbers + 1
        text = calls[start:start + calls[behind_numbers]]
    return Call(number, calls[place + 1:behind_numbers], text)


def length_of(call):
    length = 1 + len(call.numbers)
    if call.text is not None:
        length += 1 + len(call.text)
    return length


def answer_or_refusal(chain, call):
    try:
        return answer_of(chain, call)
    except BadText:
        return [-1]
    except NoVersions:
        return [-2]
    except NoSuchVersion:
        return [-3]
    except NoSuchRow:
        return [-3]
    except RowsFull:
        return [-4]
    except ChainFull:
        return [-5]
    except Unreadable:
        return [-6]
    except Obstructed as refusal:
        return [-10 - refusal.number]


def answer_of(chain, call):
    if call.number != BEGIN and len(chain.schemas) == 0:
        raise NoVersions("there are no versions")
    answer = CALLS[call.number][0]
    return answer(chain, call)
