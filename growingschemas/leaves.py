"""Values of leaf kinds and the literals that they are written as."""

from growingschemas.refusals import BadText
from growingschemas.scanner import take_digits
from growingschemas.signs import BACKSLASH, MINUS, QUOTE, SMALL_A, SMALL_F, TEXT, ZERO, is_digit, stands_as_itself


# The literal is kept beside the worth: a value has just one literal, whatever kind reads it,
# so it need not be written out anew each time.
class LeafValue:
    def __init__(self, worth, literal):
        self.worth = worth
        self.literal = literal


# A text's worth is a tuple: Python orders tuples of bytes as the literals of texts are ordered.
def plain_text_value(letters):
    return LeafValue(tuple(letters), [QUOTE] + letters + [QUOTE])


def number_value(number):
    return LeafValue(number, [ord(sign) for sign in str(number)])


def fits(worth, kind):
    if kind.letter == TEXT:
        return len(worth) <= kind.highest
    return kind.lowest <= worth <= kind.highest


def take_literal(scanner, kind):
    start = scanner.place
    if kind.letter == TEXT:
        worth = take_quoted(scanner)
    else:
        worth = take_whole_number(scanner)
    if not fits(worth, kind):
        raise BadText("the literal is out of its kind's range")
    return LeafValue(worth, scanner.text[start:scanner.place])


def take_whole_number(scanner):
    if not scanner.skip(MINUS):
        return take_digits(scanner)
    number = take_digits(scanner)
    if number == 0:
        raise BadText("a zero below zero")
    return -number


def take_quoted(scanner):
    scanner.expect(QUOTE)
    taken = []
    while not scanner.skip(QUOTE):
        taken.append(take_byte(scanner))
    return tuple(taken)


def take_byte(scanner):
    sign = scanner.take()
    if stands_as_itself(sign):
        return sign
    if sign != BACKSLASH:
        raise BadText("this byte has to be written by its number")
    greater = take_sixteenth(scanner)
    byte = greater * 16 + take_sixteenth(scanner)
    if stands_as_itself(byte):
        raise BadText("this byte has to stand as itself")
    return byte


def take_sixteenth(scanner):
    sign = scanner.take()
    if is_digit(sign):
        return sign - ZERO
    if SMALL_A <= sign <= SMALL_F:
        return sign - SMALL_A + 10
    raise BadText("a digit of base sixteen is due here")
