"""The first obstacle of a new schema against an old one, and its row."""

from growingschemas.leaves import number_value, plain_text_value
from growingschemas.reading import reads_leaves_of
from growingschemas.records import is_group, least_but_for_key, least_value
from growingschemas.signs import CHOICE, KEYED, MANY, MAYBE, ONE, SMALL_A, TEXT

UNLIKE = 1
NARROWER = 2
GONE = 3
UNFILLED = 4
MAY_BE_MISSING = 5
MAY_BE_MANY = 6
KEYS = 7


# The occurrences are those that the last field on the path has in the obstacle's row.
class Obstacle:
    def __init__(self, number, path, occurrences):
        self.number = number
        self.path = path
        self.occurrences = occurrences


# None if there's no obstacle.
def first_obstacle(old_schema, new_schema):
    return compare_kinds(old_schema.root, new_schema.root, [])


def compare_kinds(old, new, path):
    if not is_group(old) and not is_group(new):
        return compare_leaves(old, new, path)
    if old.letter != new.letter:
        return Obstacle(UNLIKE, path, [least_value(old)])
    if old.letter == CHOICE:
        return compare_choices(old, new, path)
    return compare_records(old, new, path)


# A new N is less than the old one just if the highest number, or length, is.
def compare_leaves(old, new, path):
    if not reads_leaves_of(new, old):
        return Obstacle(UNLIKE, path, [least_value(old)])
    if new.highest < old.highest:
        return Obstacle(NARROWER, path, [first_beyond(new)])
    return None


def first_beyond(kind):
    if kind.letter == TEXT:
        return plain_text_value([SMALL_A] * (kind.highest + 1))
    return number_value(kind.highest + 1)


def compare_choices(old, new, path):
    for field in old.fields:
        if field.number not in new.position_of_number:
            return Obstacle(GONE, path + [field.number], [least_value(field.kind)])
    for field in old.fields:
        new_field = new.field_numbered(field.number)
        found = compare_kinds(field.kind, new_field.kind, path + [field.number])
        if found is not None:
            return found
    return None


def compare_records(old, new, path):
    for field in new.fields:
        old_field = old.field_numbered(field.number)
        if old_field is None:
            found = look_at_added(field, path + [field.number])
        else:
            found = compare_fields(old_field, field, path + [field.number])
        if found is not None:
            return found
    return None


def look_at_added(field, path):
    if field.fills is None:
        return Obstacle(UNFILLED, path, [])
    return None


def compare_fields(old, new, path):
    if new.mode == ONE and old.mode != ONE:
        return Obstacle(MAY_BE_MISSING, path, [])
    if new.mode == MAYBE and (old.mode == MANY or old.mode == KEYED):
        return Obstacle(MAY_BE_MANY, path, two_occurrences(old))
    if new.mode == KEYED and not keys_are_kept(old, new):
        return Obstacle(KEYS, path, two_occurrences(old))
    return compare_kinds(old.kind, new.kind, path)


def keys_are_kept(old, new):
    if old.mode == KEYED:
        return old.kind.fields[0].number == new.kind.fields[0].number
    return old.mode != MANY


def two_occurrences(field):
    if field.mode == KEYED:
        return [least_value(field.kind), least_but_for_key(field.kind)]
    return [least_value(field.kind), least_value(field.kind)]


def obstacle_row(old_schema, obstacle):
    return value_on_path(old_schema.root, obstacle.path, obstacle.occurrences)


def value_on_path(kind, path, last_occurrences):
    position = kind.position_of_number.get(path[0])
    # Only an unfilled field, the last one on its path, isn't in the old kind.
    if position is None:
        return least_value(kind)
    occurrences = last_occurrences
    if len(path) > 1:
        occurrences = [value_on_path(kind.fields[position].kind, path[1:], last_occurrences)]
    if kind.letter == CHOICE:
        return (position, occurrences[0])
    record = least_value(kind)
    record[position] = occurrences
    return record
