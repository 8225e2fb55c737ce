"""What a call may be refused for: one error class each."""


# The text is no schema, or no row's text.
class BadText(Exception):
    pass


class NoVersions(Exception):
    pass


class NoSuchVersion(Exception):
    pass


class NoSuchRow(Exception):
    pass


class RowsFull(Exception):
    pass


class ChainFull(Exception):
    pass


class Unreadable(Exception):
    pass


# A step is not let; the number is the first obstacle's.
class Obstructed(Exception):
    def __init__(self, number):
        self.number = number
