"""Schemas, from their texts."""

from growingschemas.kinds import Field, Schema, group_kind, leaf_kind
from growingschemas.leaves import take_literal
from growingschemas.records import is_group
from growingschemas.refusals import BadText
from growingschemas.scanner import Scanner, take_digits, take_name_signs
from growingschemas.signs import BIT, CHOICE, CHOICE_END, EQUALS, KEYED, MANY, MAYBE, ONE, RECORD, RECORD_END
from growingschemas.signs import SEMICOLON, TEXT, WHOLE, is_small_letter

MOST_BYTES = 2000
MOST_DEPTH = 6
MOST_LEAVES = 40
MOST_NUMBER = 999
MOST_NAME_SIGNS = 12


def parse_schema(text):
    if len(text) > MOST_BYTES:
        raise BadText("the schema is too long")
    scanner = Scanner(text)
    if scanner.peek() != RECORD:
        raise BadText("a schema is a record")
    root = take_group(scanner, 1)
    scanner.expect_end()
    if count_leaves(root) > MOST_LEAVES:
        raise BadText("too many leaves")
    return Schema(text, root)


def count_leaves(kind):
    if not is_group(kind):
        return 1
    return sum([count_leaves(field.kind) for field in kind.fields])


def take_group(scanner, depth):
    if depth > MOST_DEPTH:
        raise BadText("groups stand too deep in one another")
    letter = scanner.take()
    fields = [take_field(scanner, letter, depth)]
    while scanner.skip(SEMICOLON):
        fields.append(take_field(scanner, letter, depth))
    scanner.expect(RECORD_END if letter == RECORD else CHOICE_END)
    check_numbers([field.number for field in fields])
    check_names([field.name for field in fields])
    return group_kind(letter, fields)


def check_numbers(numbers):
    for k in range(1, len(numbers)):
        if numbers[k - 1] >= numbers[k]:
            raise BadText("numbers have to rise")


def check_names(names):
    if len(set(names)) != len(names):
        raise BadText("two fields have one name")


def take_field(scanner, group_letter, depth):
    number = take_number_between(scanner, 1, MOST_NUMBER)
    name = take_name(scanner)
    mode = take_mode(scanner)
    kind = take_kind(scanner, depth + 1)
    check_mode(mode, kind, group_letter)
    default = None
    if scanner.skip(EQUALS):
        check_default_may_stand(mode, kind, group_letter)
        default = take_literal(scanner, kind)
    return Field(number, name, mode, kind, default)


def take_number_between(scanner, lowest, highest):
    number = take_digits(scanner)
    if number < lowest or number > highest:
        raise BadText("the number is out of its range")
    return number


def take_name(scanner):
    if not is_small_letter(scanner.peek()):
        raise BadText("a name begins with a letter")
    name = take_name_signs(scanner)
    if len(name) > MOST_NAME_SIGNS:
        raise BadText("the name is too long")
    return name


def take_mode(scanner):
    mode = scanner.take()
    if mode not in (ONE, MAYBE, MANY, KEYED):
        raise BadText("a mode is due here")
    return mode


def take_kind(scanner, depth):
    letter = scanner.peek()
    if letter == RECORD or letter == CHOICE:
        return take_group(scanner, depth)
    scanner.take()
    if letter == BIT:
        return leaf_kind(letter, 0)
    if letter == WHOLE:
        return leaf_kind(letter, take_number_between(scanner, 2, 64))
    if letter == TEXT:
        return leaf_kind(letter, take_number_between(scanner, 1, 999))
    raise BadText("a kind is due here")


def check_mode(mode, kind, group_letter):
    if group_letter == CHOICE and mode != ONE:
        raise BadText("this mode can't stand in a choice")
    if mode == KEYED and not has_key(kind):
        raise BadText("there is no key")


def has_key(kind):
    if kind.letter != RECORD:
        return False
    first = kind.fields[0]
    return first.mode == ONE and not is_group(first.kind)


def check_default_may_stand(mode, kind, group_letter):
    if group_letter != RECORD or mode != ONE or is_group(kind):
        raise BadText("no default may stand here")
