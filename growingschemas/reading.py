"""Reading: a value of an old kind, as a value of a new one."""

from growingschemas.leaves import fits
from growingschemas.records import suits_mode
from growingschemas.refusals import Unreadable
from growingschemas.signs import BIT, CHOICE, RECORD, TEXT, WHOLE


# Whether both are leaf kinds, and the new one reads those of the old one's values that are in its range.
def reads_leaves_of(new, old):
    if new.letter == WHOLE:
        return old.letter == BIT or old.letter == WHOLE
    return new.letter in (BIT, TEXT) and old.letter == new.letter


def read_row(row, old_schema, new_schema):
    return read_value(row, old_schema.root, new_schema.root)


def read_value(value, old, new):
    if old.letter == RECORD and new.letter == RECORD:
        return [read_field(value, old, field) for field in new.fields]
    if old.letter == CHOICE and new.letter == CHOICE:
        return read_choice(value, old, new)
    if reads_leaves_of(new, old) and fits(value.worth, new):
        return value
    raise Unreadable("this kind can't read that value")


def read_field(record, old, field):
    position = old.position_of_number.get(field.number)
    if position is None:
        occurrences = field.fills
        if occurrences is None:
            raise Unreadable("a field has no filling")
        return occurrences
    return read_occurrences(record[position], old.fields[position].kind, field)


def read_occurrences(occurrences, old_kind, field):
    read = [read_value(value, old_kind, field.kind) for value in occurrences]
    if not suits_mode(read, field.mode):
        raise Unreadable("the occurrences don't suit the new mode")
    return read


def read_choice(choice, old, new):
    taken = old.fields[choice[0]]
    position = new.position_of_number.get(taken.number)
    if position is None:
        raise Unreadable("the taken field is gone")
    return (position, read_value(choice[1], taken.kind, new.fields[position].kind))
