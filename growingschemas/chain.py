"""The chain of versions, and the calls on it as lists of whole numbers."""

from growingschemas.obstacles import first_obstacle, obstacle_row
from growingschemas.reading import read_row
from growingschemas.refusals import BadText, ChainFull, NoSuchVersion, NoVersions, Obstructed, Unreadable
from growingschemas.rows import parse_row, row_text
from growingschemas.schemas import parse_schema

MOST_VERSIONS = 16


class Chain:
    def __init__(self):
        self.schemas = []

    def last_schema(self):
        return self.schemas[len(self.schemas) - 1]

    def schema_at(self, version):
        if version < 0 or version >= len(self.schemas):
            raise NoSuchVersion("there's no such version")
        return self.schemas[version]


# A call's own whole numbers, and its text if it has one.
class Call:
    def __init__(self, number, numbers, text):
        self.number = number
        self.numbers = numbers
        self.text = text


def begin(chain, call):
    schema = parse_schema(call.text)
    chain.schemas = [schema]
    return [0]


def step(chain, call):
    schema = parse_schema(call.text)
    if len(chain.schemas) >= MOST_VERSIONS:
        raise ChainFull("there are as many versions as may be")
    obstacle = first_obstacle(chain.last_schema(), schema)
    if obstacle is not None:
        raise Obstructed(obstacle.number)
    chain.schemas.append(schema)
    return [len(chain.schemas) - 1]


def why(chain, call):
    return tell_obstacle(chain.last_schema(), parse_schema(call.text))


def versions(chain, call):
    return [len(chain.schemas)]


def show(chain, call):
    return counted(chain.schema_at(call.numbers[0]).text)


def compare(chain, call):
    old = chain.schema_at(call.numbers[0])
    new = chain.schema_at(call.numbers[1])
    return tell_obstacle(old, new)


def read(chain, call):
    old = chain.schema_at(call.numbers[0])
    new = chain.schema_at(call.numbers[1])
    row = parse_row(call.text, old)
    return counted(row_text(read_row(row, old, new), new))


def tell_obstacle(old, new):
    obstacle = first_obstacle(old, new)
    if obstacle is None:
        return [0, 0, 0]
    text = row_text(obstacle_row(old, obstacle), old)
    return [obstacle.number] + counted(obstacle.path) + counted(text)


def counted(numbers):
    return [len(numbers)] + numbers


# A call's number is its place here. Behind what answers it: how many whole numbers it has, whether it has a text.
CALLS = (
    (begin, 0, True),
    (step, 0, True),
    (why, 0, True),
    (versions, 0, False),
    (show, 1, False),
    (compare, 2, False),
    (read, 2, True),
)
BEGIN = 0


def answers(calls):
    chain = Chain()
    answered = []
    place = 0
    while place < len(calls):
        call = call_at(calls, place)
        place += length_of(call)
        answer = answer_or_refusal(chain, call)
        answered.append(len(answer))
        answered.extend(answer)
    return answered


def call_at(calls, place):
    number = calls[place]
    behind_numbers = place + 1 + CALLS[number][1]
    text = None
    if CALLS[number][2]:
        start = behind_numbers + 1
        text = calls[start:start + calls[behind_numbers]]
    return Call(number, calls[place + 1:behind_numbers], text)


def length_of(call):
    length = 1 + len(call.numbers)
    if call.text is not None:
        length += 1 + len(call.text)
    return length


def answer_or_refusal(chain, call):
    try:
        return answer_of(chain, call)
    except BadText:
        return [-1]
    except NoVersions:
        return [-2]
    except NoSuchVersion:
        return [-3]
    except ChainFull:
        return [-5]
    except Unreadable:
        return [-6]
    except Obstructed as refusal:
        return [-10 - refusal.number]


def answer_of(chain, call):
    if call.number != BEGIN and len(chain.schemas) == 0:
        raise NoVersions("there are no versions")
    answer = CALLS[call.number][0]
    return answer(chain, call)
