"""What a schema is built of: kinds and fields."""

from growingschemas.records import fills_in
from growingschemas.signs import BIT, WHOLE


# Of a leaf kind lowest and highest bound its numbers, or its texts' lengths; a group has fields instead.
class Kind:
    def __init__(self, letter, lowest, highest, fields):
        self.letter = letter
        self.lowest = lowest
        self.highest = highest
        self.fields = fields
        self.position_of_number = dict([(field.number, k) for k, field in enumerate(fields)])
        self.position_of_name = dict([(field.name, k) for k, field in enumerate(fields)])

    # None if there's no field with this number.
    def field_numbered(self, number):
        position = self.position_of_number.get(number)
        if position is None:
            return None
        return self.fields[position]


# The default is a LeafValue, or None where there's none: all that it's for is what the field fills in.
class Field:
    def __init__(self, number, name, mode, kind, default):
        self.number = number
        self.name = name
        self.mode = mode
        self.kind = kind
        self.fills = fills_in(mode, kind, default)


class Schema:
    def __init__(self, text, root):
        self.text = text
        self.root = root


def leaf_kind(letter, size):
    if letter == BIT:
        return Kind(letter, 0, 1, [])
    if letter == WHOLE:
        half = half_of_range(size)
        return Kind(letter, -half, half - 1, [])
    return Kind(letter, 0, size, [])


def group_kind(letter, fields):
    return Kind(letter, 0, 0, fields)


def half_of_range(size):
    half = 1
    for k in range(1, size):
        half = half * 2
    return half
