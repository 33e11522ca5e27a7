"""The errors of the package.

Each message is a fixed text: what an error keeps can be of any size, and is
read off its attribute instead.
"""


class OrderError(ValueError):
    """Something is not what the document asks for."""


class InvalidOrder(OrderError):
    """A value is no order, or no order can be made of it."""


class InvalidLot(OrderError):
    """A value is no such lot of the order."""


class InvalidLineup(OrderError):
    """A value is no line-up of the order."""


class InvalidOperation(OrderError):
    """A call makes no sense with these arguments."""


class ParseError(OrderError):
    """A text has a line that cannot stand there; None if there is no text."""

    def __init__(self, line):
        OrderError.__init__(self, "a line cannot stand there")
        self.line = line


class UnknownPlace(KeyError):
    """A value is no place of the order."""

    def __init__(self, place):
        KeyError.__init__(self, "no place of the order")
        self.place = place


class InvalidNumber(ArithmeticError):
    """A value is no integer, or is out of its bounds."""

    def __init__(self, value):
        ArithmeticError.__init__(self, "no such number")
        self.value = value


class Circle(LookupError):
    """A place would be ahead of itself: the circle leads from it back to it."""

    def __init__(self, circle):
        LookupError.__init__(self, "a place would be ahead of itself")
        self.circle = circle


class TooMany(OverflowError):
    """There are more things than the limit tells."""

    def __init__(self, limit):
        OverflowError.__init__(self, "more than the limit")
        self.limit = limit


class NothingToUndo(IndexError):
    """There are not so many changes to take back, or to do again."""

    def __init__(self, many):
        IndexError.__init__(self, "not so many changes")
        self.many = many


class Refused(RuntimeError):
    """A change is refused, for a reason."""

    def __init__(self, reason):
        RuntimeError.__init__(self, "refused")
        self.reason = reason
