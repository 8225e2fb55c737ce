"""Values: least ones, fillings, and what occurrences a field may have.

A leaf's value is a LeafValue. A record's value is a list: for each of its fields,
in order, the list of its occurrences. A choice's value is a tuple: which of its
fields is taken, counted from 0, and that field's value. No value is changed once
it is built, so one may stand in many places.
"""

from growingschemas.leaves import number_value, plain_text_value
from growingschemas.signs import CHOICE, KEYED, MAYBE, ONE, RECORD, SMALL_A, TEXT


def is_group(kind):
    return kind.letter == RECORD or kind.letter == CHOICE


def least_value(kind):
    if kind.letter == RECORD:
        return [least_occurrences(field) for field in kind.fields]
    if kind.letter == CHOICE:
        return (0, least_value(kind.fields[0].kind))
    if kind.letter == TEXT:
        return plain_text_value([])
    return number_value(0)


def least_occurrences(field):
    if field.mode == ONE:
        return [least_value(field.kind)]
    return []


# The record kind is a keyed field's: its first field is the key.
def least_but_for_key(kind):
    value = least_value(kind)
    if kind.fields[0].kind.letter == TEXT:
        value[0] = [plain_text_value([SMALL_A])]
    else:
        value[0] = [number_value(1)]
    return value


# The occurrences that a field fills in; None if it needs a filling and has none.
def fills_in(mode, kind, default):
    if mode != ONE:
        return []
    filling = filling_of(kind, default)
    if filling is None:
        return None
    return [filling]


# Choices, and leaves without a default, have no default and so no filling.
def filling_of(kind, default):
    if kind.letter != RECORD:
        return default
    value = []
    for field in kind.fields:
        if field.fills is None:
            return None
        value.append(field.fills)
    return value


def suits_mode(occurrences, mode):
    if mode == ONE:
        return len(occurrences) == 1
    if mode == MAYBE:
        return len(occurrences) <= 1
    if mode == KEYED:
        return keys_rise(occurrences)
    return True


def keys_rise(occurrences):
    for k in range(1, len(occurrences)):
        if key_worth(occurrences[k - 1]) >= key_worth(occurrences[k]):
            return False
    return True


def key_worth(value):
    return value[0][0].worth
