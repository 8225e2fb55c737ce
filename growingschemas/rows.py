"""Rows, from their texts and as texts."""

from growingschemas.leaves import take_literal
from growingschemas.records import suits_mode
from growingschemas.refusals import BadText
from growingschemas.scanner import Scanner, take_name_signs
from growingschemas.signs import CHOICE, CHOICE_END, COLON, COMMA, RECORD, RECORD_END, SEMICOLON

MOST_BYTES = 4000


def parse_row(text, schema):
    if len(text) > MOST_BYTES:
        raise BadText("the row's text is too long")
    scanner = Scanner(text)
    row = take_value(scanner, schema.root)
    scanner.expect_end()
    return row


def take_value(scanner, kind):
    if kind.letter == RECORD:
        return take_record(scanner, kind)
    if kind.letter == CHOICE:
        return take_choice(scanner, kind)
    return take_literal(scanner, kind)


def take_record(scanner, kind):
    scanner.expect(RECORD)
    record = [[] for field in kind.fields]
    if not scanner.skip(RECORD_END):
        take_fields_into(record, scanner, kind)
        scanner.expect(RECORD_END)
    for field, occurrences in zip(kind.fields, record):
        if not suits_mode(occurrences, field.mode):
            raise BadText("the occurrences don't suit the mode")
    return record


def take_fields_into(record, scanner, kind):
    last = -1
    going = True
    while going:
        position = take_position(scanner, kind)
        if position <= last:
            raise BadText("the fields are out of order")
        record[position] = take_occurrences(scanner, kind.fields[position].kind)
        last = position
        going = scanner.skip(SEMICOLON)


def take_position(scanner, kind):
    position = kind.position_of_name.get(take_name_signs(scanner))
    if position is None:
        raise BadText("there's no such field")
    scanner.expect(COLON)
    return position


def take_occurrences(scanner, kind):
    occurrences = [take_value(scanner, kind)]
    while scanner.skip(COMMA):
        occurrences.append(take_value(scanner, kind))
    return occurrences


def take_choice(scanner, kind):
    scanner.expect(CHOICE)
    position = take_position(scanner, kind)
    taken = take_value(scanner, kind.fields[position].kind)
    scanner.expect(CHOICE_END)
    return (position, taken)


def row_text(row, schema):
    text = []
    write_value(row, schema.root, text)
    return text


def field_text(field, occurrences):
    text = []
    write_field(field, occurrences, text)
    return text


# Everything is written into one list: texts that are read on may be long.
def write_value(value, kind, text):
    if kind.letter == RECORD:
        write_record(value, kind, text)
    elif kind.letter == CHOICE:
        write_choice(value, kind, text)
    else:
        text.extend(value.literal)


def write_record(record, kind, text):
    text.append(RECORD)
    first = True
    for field, occurrences in zip(kind.fields, record):
        if len(occurrences) > 0:
            if not first:
                text.append(SEMICOLON)
            first = False
            write_field(field, occurrences, text)
    text.append(RECORD_END)


def write_field(field, occurrences, text):
    text.extend(field.name)
    text.append(COLON)
    for k, value in enumerate(occurrences):
        if k > 0:
            text.append(COMMA)
        write_value(value, field.kind, text)


def write_choice(choice, kind, text):
    text.append(CHOICE)
    write_field(kind.fields[choice[0]], [choice[1]], text)
    text.append(CHOICE_END)
