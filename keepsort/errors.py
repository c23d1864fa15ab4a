"""The errors of the package, in three families: SortError, FindError and LimitError."""


class SortError(ValueError):
    """The base of all errors about an argument of the wrong form."""


class InvalidPlan(SortError):
    """The value is not a plan; `index` is None if it is no tuple of 1 to 24 elements."""

    def __init__(self, index):
        self.index = index


class InvalidKind(SortError):
    """The value is not the letter of a kind or of an axis."""

    def __init__(self, kind):
        self.kind = kind


class InvalidFilling(SortError):
    """The value is not a filling; `index` is None if its length or form is wrong."""

    def __init__(self, index):
        self.index = index


class InvalidNumber(SortError):
    """The number is not an integer or is out of range."""

    def __init__(self, number):
        self.number = number


class InvalidWord(SortError):
    """The value is not a word; `index` is None if it is no string or too long."""

    def __init__(self, index):
        self.index = index


class InvalidProgram(SortError):
    """The value is not a program; `index` is None if it is no tuple."""

    def __init__(self, index):
        self.index = index


class InvalidText(SortError):
    """The text is not a written form."""

    def __init__(self, text):
        self.text = text


class InvalidLengths(SortError):
    """The value is not the lengths of a box; `index` is None if it is no tuple of 1 to 3 elements."""

    def __init__(self, index):
        self.index = index


class InvalidTable(SortError):
    """The value is not a ranked table; `index` is None if its length or form is wrong."""

    def __init__(self, index):
        self.index = index


class InvalidRecord(SortError):
    """The value is not a record or records; `index` is None if no element is to blame."""

    def __init__(self, index):
        self.index = index


class InvalidCell(SortError):
    """The value is not a cell of the plan."""

    def __init__(self, cell):
        self.cell = cell


class InvalidValue(SortError):
    """The value cannot stand in a table."""

    def __init__(self, value):
        self.value = value


class InvalidEdit(SortError):
    """An element is not an edit; `index` is None if the value is no tuple."""

    def __init__(self, index):
        self.index = index


class InvalidCommand(SortError):
    """The line is not a command."""

    def __init__(self, line):
        self.line = line


class FindError(LookupError):
    """The base of all errors about something that is not there or is taken."""


class OtherValues(FindError):
    """Two fillings do not have the same values."""


class UnknownName(FindError):
    """The name is not one of the names of the records."""

    def __init__(self, name):
        self.name = name


class NoOrder(FindError):
    """No order explains all records."""


class ValueTaken(FindError):
    """Another cell has this value."""

    def __init__(self, value):
        self.value = value


class NothingToUndo(FindError):
    """The log is empty."""


class LimitError(ArithmeticError):
    """The base of all errors about something that is too large."""


class TooManyCells(LimitError):
    """The plan has too many cells for this question."""

    def __init__(self, count):
        self.count = count


class TooManyEdits(LimitError):
    """The log is full."""

    def __init__(self, count):
        self.count = count
