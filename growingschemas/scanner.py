"""A text that is gone through from its first sign to its end."""

from growingschemas.refusals import BadText
from growingschemas.signs import END, ZERO, is_digit, is_name_sign

# No whole number that may stand in a text has more: 2^63 has 19.
MOST_DIGITS = 19


class Scanner:
    def __init__(self, text):
        self.text = text
        self.place = 0

    def peek(self):
        if self.place < len(self.text):
            return self.text[self.place]
        return END

    def take(self):
        sign = self.peek()
        if sign == END:
            raise BadText("the text ends too early")
        self.place += 1
        return sign

    def skip(self, sign):
        if self.peek() != sign:
            return False
        self.place += 1
        return True

    def expect(self, sign):
        if not self.skip(sign):
            raise BadText("another sign is due here")

    def expect_end(self):
        if self.peek() != END:
            raise BadText("something stands behind the end")


def take_digits(scanner):
    start = scanner.place
    number = 0
    while is_digit(scanner.peek()):
        number = number * 10 + scanner.take() - ZERO
        # Without this a text full of digits would be reckoned out to a huge number first.
        if scanner.place - start > MOST_DIGITS:
            raise BadText("too many digits")
    length = scanner.place - start
    if length == 0:
        raise BadText("a digit is due here")
    if length > 1 and scanner.text[start] == ZERO:
        raise BadText("a zero in front")
    return number


# Whether these signs are a name is asked elsewhere: in a row they only have to be one of the schema's.
def take_name_signs(scanner):
    start = scanner.place
    while is_name_sign(scanner.peek()):
        scanner.take()
    return tuple(scanner.text[start:scanner.place])
