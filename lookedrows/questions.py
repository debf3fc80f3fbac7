"""Questions about procedures: what they have in common."""

from lookedrows.errors import ColumnsDiffer, InvalidArguments
from lookedrows.values import are_whole


def _joined_arguments(procedures):
    """The tuple of the arguments of the first procedure, then those that each further one has besides."""
    names = [name for procedure in procedures for name in procedure.arguments]
    return tuple([name for at, name in enumerate(names) if name not in names[:at]])


class Question:
    """The base class of the questions. It is not asked itself, so there is no table for which it fails."""

    def __init__(self, *procedures):
        for procedure in procedures:
            if procedure.columns != procedures[0].columns:
                raise ColumnsDiffer()
        self._procedures = procedures
        self._names = _joined_arguments(procedures)
        self._sum = sum([procedure.looks for procedure in procedures])

    def procedures(self):
        """The list of the procedures."""
        return list(self._procedures)

    @property
    def columns(self):
        """The tuple of all columns."""
        return self._procedures[0].columns

    @property
    def arguments(self):
        """The tuple of the names of the arguments of all procedures."""
        return self._names

    @property
    def looks(self):
        """The number of looks of all runs of the question."""
        return self._sum

    @property
    def breadth(self):
        """The number of rows up to which a positive answer has cases."""
        return self._sum

    @property
    def topic(self):
        """The word of the question."""
        return "question"

    def fails(self, rules, table, *numbers):
        """Whether the question fails for a table and arguments; raises ColumnsDiffer(), InvalidArguments()."""
        if rules.columns != self.columns or table.columns != self.columns:
            raise ColumnsDiffer()
        if not are_whole(numbers, len(self._names)):
            raise InvalidArguments()
        return False

    def __repr__(self):
        return f"Question({self.topic})"
