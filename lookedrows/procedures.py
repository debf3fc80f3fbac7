"""Procedures: columns, arguments and statements."""

from lookedrows.errors import InvalidArguments, InvalidCount
from lookedrows.scopes import Scope
from lookedrows.statements import checked_statements, late_index, looks_of, rows_named
from lookedrows.values import all_columns, are_names, is_whole

MOST_ARGUMENTS = 3


class Procedure:
    """Statements over the rows of a table with these columns, and over arguments."""

    def __init__(self, columns, arguments, statements):
        self._columns = all_columns(columns)
        if not are_names(arguments, MOST_ARGUMENTS):
            raise InvalidArguments()
        self._arguments = tuple(arguments)
        self._statements = checked_statements(statements, Scope(self._columns, self._arguments))
        self._looks = looks_of(self._statements)
        self._late = late_index(self._statements)

    @property
    def columns(self):
        """The tuple of all columns."""
        return self._columns

    @property
    def arguments(self):
        """The tuple of the names of the arguments."""
        return self._arguments

    @property
    def looks(self):
        """The number of rows of the table at which a run looks at most."""
        return self._looks

    @property
    def fails_early(self):
        """Whether no statement that may fail stands behind one that changes."""
        return self._late is None

    def statements(self):
        """The list of the statements."""
        return list(self._statements)

    def first(self, n):
        """The procedure with the first n statements; raises InvalidCount(n)."""
        if not is_whole(n) or not 0 <= n <= len(self):
            raise InvalidCount(n)
        return Procedure(self._columns[1:], self._arguments, self._statements[:n])

    def without(self, n):
        """The procedure without the statement of this index; raises InvalidCount(n)."""
        if not is_whole(n) or not 0 <= n < len(self):
            raise InvalidCount(n)
        kept = [*self._statements[:n], *self._statements[n + 1:]]
        return Procedure(self._columns[1:], self._arguments, kept)

    def found_names(self):
        """The ascending list of the names of found rows."""
        return sorted(set([name for statement in self._statements for name in rows_named(statement)]))

    def late(self):
        """The index of the first statement that may fail, or has one in it that may, behind a change; or None."""
        return self._late

    def __len__(self):
        return len(self._statements)

    def __eq__(self, other):
        if not isinstance(other, Procedure) or self._columns != other._columns:
            return False
        return self._arguments == other._arguments and self._statements == other._statements

    def __repr__(self):
        return f"Procedure({len(self)} statements)"
