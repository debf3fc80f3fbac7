"""Cases: how a procedure ends and what it leaves, for all tables of some number of rows that keep rules."""

from lookedrows.choices import ascending, branches, cells_of
from lookedrows.errors import ColumnsDiffer, InvalidArguments, InvalidCount
from lookedrows.plays import played
from lookedrows.systems import System
from lookedrows.values import are_whole, is_whole

MOST_ROWS = 6


class Case:
    """A case of a procedure: the system that its tables and arguments solve, its ending and its rows at the end."""

    def __init__(self, system, ending, rows, *, arguments=(), many=0):
        self._system = system
        self._word = ending[0]
        self._told = ending[1] if ending[0] == "failed" else list(ending[1])
        self._rows = list(rows)
        self._arguments = tuple(arguments)
        self._many = many

    @property
    def system(self):
        """The system of the case."""
        return self._system

    @property
    def ending(self):
        """The pair of the word and of what is returned, as pairs (unknown, k), or of the word of the failure."""
        if self._word == "failed":
            return (self._word, self._told)
        return (self._word, list(self._told))

    def rows(self):
        """The list of the rows at the end, as tuples of pairs (unknown, k)."""
        return list(self._rows)

    def matches(self, table, *numbers):
        """Whether a table and arguments are of this case; raises InvalidArguments()."""
        if not are_whole(numbers, len(self._arguments)):
            raise InvalidArguments()
        known = dict(zip(self._arguments, numbers))
        for place, row in enumerate(table.rows()):
            for column, cell in zip(table.columns, row):
                known[f"{place}.{column}"] = cell
        return len(table) == self._many and known in self._system

    def __repr__(self):
        return f"Case({self._word})"


def _outcome(rules, procedure, cells, judge):
    """The ending and the rows at the end of a run on some rows, or None if they do not keep the rules."""
    if rules.first_broken(cells, judge) is not None:
        return None
    return played(procedure, cells, [(name, 0) for name in procedure.arguments], judge)


def cases_of(rules, procedure, many):
    """The list of the cases of a procedure for tables of so many rows; raises ColumnsDiffer(), InvalidCount(many)."""
    if rules.columns != procedure.columns:
        raise ColumnsDiffer()
    if not is_whole(many) or not 0 <= many <= MOST_ROWS:
        raise InvalidCount(many)
    cells = cells_of(rules.columns, many)
    start = ascending(many)
    found = []
    for comparisons, outcome in branches(start, lambda judge: _outcome(rules, procedure, cells, judge)):
        if outcome is not None:
            ending, left = outcome
            found.append(Case(System(comparisons), ending, left, arguments=procedure.arguments, many=many))
    return found


def systems_of(rules, many):
    """The list of the systems, of which just one holds for each table of so many rows that keeps rules."""
    cells = cells_of(rules.columns, many)
    start = ascending(many)
    found = []
    for comparisons, broken in branches(start, lambda judge: rules.first_broken(cells, judge)):
        if broken is None:
            found.append(System(comparisons))
    return found
