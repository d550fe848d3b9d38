"""The refusals of the program, each with the field that tells what was refused."""


class StrikeError(ValueError):
    """Any refusal."""


class NoText(StrikeError):
    """A text that isn't written as asked; part: the number of the wrong part, or None."""

    def __init__(self, part):
        self.part = part


class NoDeed(StrikeError):
    """What is no deed."""


class NotNow(StrikeError):
    """A deed that can't be done now; name: the one that stands and shouldn't, or doesn't and should."""

    def __init__(self, name):
        self.name = name


class NoRow(StrikeError):
    """A row that can't be done on a world; number: that of the first deed that can't."""

    def __init__(self, number):
        self.number = number


class NoBook(StrikeError):
    """What is no book; number: that of the first wrong line, or None."""

    def __init__(self, number):
        self.number = number


class NoLine(StrikeError):
    """What is no line's number; line: that thing."""

    def __init__(self, line):
        self.line = line


class NoStand(StrikeError):
    """What is no stand of a book."""


class NoName(StrikeError):
    """What is no name, or one that is made already; name: that thing."""

    def __init__(self, name):
        self.name = name


class NoNeed(StrikeError):
    """A line whose needs don't all stand; line: the least one that doesn't."""

    def __init__(self, line):
        self.line = line


class NoMark(StrikeError):
    """A mark that was never set; name: what it was asked by."""

    def __init__(self, name):
        self.name = name


class NoJoin(StrikeError):
    """Two books that don't begin with the same world."""


class NoCall(StrikeError):
    """A row that the desk doesn't know; row: that thing."""

    def __init__(self, row):
        self.row = row


class NoLog(StrikeError):
    """A name by which the desk keeps no log; name: that name."""

    def __init__(self, name):
        self.name = name
