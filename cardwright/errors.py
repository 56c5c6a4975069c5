"""The errors that the program raises (point 101)."""


class CardError(ValueError):
    """What every error of the program is."""


class BadDecimal(CardError):
    """A text spells no decimal, or a decimal is divided by 0."""


class BadPicture(CardError):
    """A text describes no picture, or a picture cannot have a value or a text."""


class BadData(CardError):
    """Entries that cannot be laid out, or a name that no item has."""

    def __init__(self, reason, name):
        self.reason = reason
        self.name = name


class BadPart(CardError):
    """A part of a program tree that the checker does not let by."""

    def __init__(self, reason, name):
        self.reason = reason
        self.name = name


class BadProgram(CardError):
    """A program text that spells no program tree."""

    def __init__(self, line, reason):
        self.line = line
        self.reason = reason


class BadCode(CardError):
    """Code that the examiner does not let by."""

    def __init__(self, place, reason):
        self.place = place
        self.reason = reason


class Halt(CardError):
    """The end of a run."""

    def __init__(self, end):
        self.end = end


class BadJob(CardError):
    """A job that cannot be run."""

    def __init__(self, reason):
        self.reason = reason
