"""Tables: rows of integers in ascending order of their keys."""

from lookedrows.errors import InvalidRow, UnknownKey
from lookedrows.values import all_columns, is_whole


def _is_row(value, many):
    """Whether any value is a row of so many columns."""
    return isinstance(value, tuple) and len(value) == many and all([is_whole(cell) for cell in value])


def _checked_rows(rows, many, taken):
    """The list of rows of so many columns with keys that are not taken; raises InvalidRow(index)."""
    if not isinstance(rows, (list, tuple)):
        raise InvalidRow(0)
    keys = {key: True for key in taken}
    for index, row in enumerate(rows):
        if not _is_row(row, many) or row[0] in keys:
            raise InvalidRow(index)
        keys[row[0]] = True
    return list(rows)


class Table:
    """Rows with different keys, in ascending order of the keys."""

    def __init__(self, columns, rows=()):
        self._columns = all_columns(columns)
        self._rows = sorted(_checked_rows(rows, len(self._columns), []))

    @classmethod
    def empty(cls, *columns):
        """The table without rows."""
        return cls(columns)

    @property
    def columns(self):
        """The tuple of all columns."""
        return self._columns

    def rows(self):
        """The list of the rows."""
        return list(self._rows)

    def all_keys(self):
        """The list of the keys."""
        return [row[0] for row in self._rows]

    def at(self, key):
        """The row with a key; raises UnknownKey(key)."""
        for row in self._rows:
            if row[0] == key:
                return row
        raise UnknownKey(key)

    def __add__(self, other):
        further = _checked_rows(other, len(self._columns), self.all_keys())
        return Table(self._columns[1:], [*self._rows, *further])

    def __sub__(self, other):
        return Table(self._columns[1:], [row for row in self._rows if row[0] not in other])

    def __contains__(self, x):
        return _is_row(x, len(self._columns)) and x in self._rows

    def __len__(self):
        return len(self._rows)

    def __eq__(self, other):
        return isinstance(other, Table) and self._columns == other._columns and self._rows == other._rows

    def __repr__(self):
        return f"Table({len(self)} rows)"
