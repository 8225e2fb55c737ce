"""The signs of schemas and rows, as the numbers of their bytes."""

# No byte has this number: it stands for what comes behind a text's last sign.
END = -1

QUOTE = 34
COMMA = 44
MINUS = 45
COLON = 58
SEMICOLON = 59
EQUALS = 61
BACKSLASH = 92
UNDERSCORE = 95

ZERO = 48
NINE = 57
SMALL_A = 97
SMALL_F = 102
SMALL_Z = 122

# The modes: just one occurrence, none or one, any number, any number told apart by a key.
ONE = 33
MAYBE = 63
MANY = 42
KEYED = 37

# The kinds: a leaf kind is known by its letter, a group by the sign that begins it.
BIT = 98
WHOLE = 105
TEXT = 116
RECORD = 123
CHOICE = 60
RECORD_END = 125
CHOICE_END = 62


def is_digit(sign):
    return ZERO <= sign <= NINE


def is_small_letter(sign):
    return SMALL_A <= sign <= SMALL_Z


def is_name_sign(sign):
    return is_small_letter(sign) or is_digit(sign) or sign == UNDERSCORE


# All other bytes, and the two signs that a literal itself is built with, are written by their number.
def stands_as_itself(byte):
    return 32 <= byte <= 126 and byte != QUOTE and byte != BACKSLASH
