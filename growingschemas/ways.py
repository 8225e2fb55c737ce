"""Ways: the schemas from one version of a chain on to a later one, both with them, in a list."""

from growingschemas.reading import read_occurrences, read_row
from growingschemas.records import is_group
from growingschemas.refusals import Unreadable
from growingschemas.rows import field_text
from growingschemas.signs import CHOICE


# The row is the way's first schema's; what is given back is the last one's.
def read_along(row, way):
    for k in range(1, len(way)):
        row = read_row(row, way[k - 1], way[k])
    return row


def is_straight(way):
    last = way[len(way) - 1]
    for k in range(len(way) - 2):
        if not kinds_go_straight(way[k].root, way[k + 1].root, last.root):
            return False
    return True


def kinds_go_straight(old, between, new):
    if not is_group(old) and not is_group(between) and not is_group(new):
        return True
    if old.letter != between.letter or between.letter != new.letter:
        return False
    if new.letter == CHOICE:
        return choices_go_straight(old, between, new)
    return records_go_straight(old, between, new)


def choices_go_straight(old, between, new):
    for field in old.fields:
        between_field = between.field_numbered(field.number)
        new_field = new.field_numbered(field.number)
        if between_field is None or new_field is None:
            return False
        if not kinds_go_straight(field.kind, between_field.kind, new_field.kind):
            return False
    return True


def records_go_straight(old, between, new):
    for field in new.fields:
        if not fields_go_straight(old.field_numbered(field.number), between.field_numbered(field.number), field):
            return False
    return True


# The old one and the one between are None where their records haven't the field.
def fields_go_straight(old, between, new):
    if between is None:
        return old is None
    if old is None:
        return fill_in_the_same(between, new)
    return kinds_go_straight(old.kind, between.kind, new.kind)


def fill_in_the_same(between, new):
    if between.fills is None or new.fills is None:
        return False
    try:
        occurrences = read_occurrences(between.fills, between.kind, new)
    except Unreadable:
        return False
    # Two lists of one field's occurrences are the same just if they are written the same.
    return field_text(new, occurrences) == field_text(new, new.fills)
