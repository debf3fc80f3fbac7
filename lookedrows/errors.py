"""The errors of the whole program.

No error passes its message on to Python's own class: what an error has to tell stands in its attributes.
"""


class TableError(ValueError):
    """The base class of the errors about wrong values, names and steps."""

    def __init__(self):
        self.code = self.__class__.__name__


class InvalidName(TableError):
    """What was given is no name."""

    def __init__(self, given):
        super().__init__()
        self.given = given


class InvalidColumns(TableError):
    """The further columns are no list of 0 to 3 different names."""


class InvalidRow(TableError):
    """The row of this index is none, or it repeats a key."""

    def __init__(self, index):
        super().__init__()
        self.index = index


class InvalidValue(TableError):
    """What should be a value is none."""


class InvalidCondition(TableError):
    """The part at this path is no condition by itself."""

    def __init__(self, path):
        super().__init__()
        self.path = path


class InvalidArguments(TableError):
    """The arguments, or the numbers for them, are not those that are needed."""


class InvalidStatement(TableError):
    """The statement at this path is wrong by itself."""

    def __init__(self, path):
        super().__init__()
        self.path = path


class InvalidComparison(TableError):
    """What stands at this index is no comparison."""

    def __init__(self, index):
        super().__init__()
        self.index = index


class NotOpen(TableError):
    """The system has no solution."""


class InvalidRule(TableError):
    """The rule of this index is none, or it is one too many."""

    def __init__(self, index):
        super().__init__()
        self.index = index


class NotCarried(TableError):
    """The next rules do not carry over the three rows of the witness."""

    def __init__(self, witness):
        super().__init__()
        self.witness = witness


class ColumnsDiffer(TableError):
    """Two things that should have the same columns have different ones."""


class InvalidCount(TableError):
    """The number that was given is not one of those that are allowed."""

    def __init__(self, given):
        super().__init__()
        self.given = given


class FailsLate(TableError):
    """The statement of this index may fail behind a change."""

    def __init__(self, index):
        super().__init__()
        self.index = index


class TooWide(TableError):
    """A question has more looks, or more weavings, than the most that are decided."""

    def __init__(self, most):
        super().__init__()
        self.most = most


class InvalidText(TableError):
    """What was given is not the text of anything that was looked for."""


class InvalidLine(TableError):
    """The line of this index is not of its form."""

    def __init__(self, index):
        super().__init__()
        self.index = index


class DuplicateName(TableError):
    """There is an entry of this name already."""

    def __init__(self, name):
        super().__init__()
        self.name = name


class WrongKind(TableError):
    """The entry of this name is of another kind than the one that is needed."""

    def __init__(self, name):
        super().__init__()
        self.name = name


class Full(TableError):
    """There are as many entries as the limit lets in."""

    def __init__(self, limit):
        super().__init__()
        self.limit = limit


class InvalidLimit(TableError):
    """What was given is no limit of a shelf."""

    def __init__(self, given):
        super().__init__()
        self.given = given


class InvalidCommand(TableError):
    """What stands at this index is no command."""

    def __init__(self, index):
        super().__init__()
        self.index = index


class Failed(TableError):
    """A run that should leave a table failed with this word."""

    def __init__(self, word):
        super().__init__()
        self.word = word


class Missing(LookupError):
    """The base class of the errors about what is not there."""

    def __init__(self):
        self.code = self.__class__.__name__


class UnknownKey(Missing):
    """No row has this key."""

    def __init__(self, key):
        super().__init__()
        self.key = key


class UnknownName(Missing):
    """No entry has this name."""

    def __init__(self, name):
        super().__init__()
        self.name = name


class NothingLeft(IndexError):
    """No step is left that could be undone or redone."""

    def __init__(self):
        self.code = self.__class__.__name__
