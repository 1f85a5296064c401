"""The errors that the package raises."""


class RestError(ValueError):
    """A value that is not what the document asks for."""


class InvalidWord(RestError):
    """A value that is no name."""


class InvalidCode(RestError):
    """A value that is no code."""


class InvalidProgram(RestError):
    """A value that is no program."""


class InvalidWorld(RestError):
    """A value that is no world."""


class InvalidFact(RestError):
    """A value that is no fact."""


class InvalidTable(RestError):
    """A value that is no table."""


class InvalidLines(RestError):
    """A value that is no lines."""


class InvalidContext(RestError):
    """A value that is no context."""


class InvalidMarking(RestError):
    """A value that is no marking."""


class InvalidOperation(RestError):
    """An operand or an argument with which this cannot be done."""


class ParseError(RestError):
    """A text that cannot be read; `line` is the index of the line, or None."""

    def __init__(self, line):
        super().__init__("the text cannot be read")
        self.line = line


class UnknownName(KeyError):
    """A name or a label that is not there: `wanted`."""

    def __init__(self, wanted):
        super().__init__("there is no such name")
        self.wanted = wanted


class UnknownPlace(LookupError):
    """A place that is not there: `spot`."""

    def __init__(self, spot):
        super().__init__("there is no such place")
        self.spot = spot


class NothingToUndo(IndexError):
    """There are fewer changes than `many` to take back or to do again."""

    def __init__(self, many):
        super().__init__("there are not so many changes")
        self.many = many


class TooMany(OverflowError):
    """More than `limit` would be needed."""

    def __init__(self, limit):
        super().__init__("more would be needed than the limit lets")
        self.limit = limit


class Refused(ArithmeticError):
    """A change that a pinned saying forbids: `reason`."""

    def __init__(self, reason):
        super().__init__("a pinned saying would not hold")
        self.reason = reason


class InvalidNumber(RuntimeError):
    """A number that is none of those that are meant: `number`."""

    def __init__(self, number):
        super().__init__("there is no such number or index here")
        self.number = number
