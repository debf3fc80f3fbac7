"""Rules: what holds for each row of a table and for each two neighbouring rows."""

from lookedrows.boards import Board, Judge, plain_rows
from lookedrows.choices import ascending, branches, cells_of
from lookedrows.conditions import parts
from lookedrows.errors import ColumnsDiffer, InvalidCount, InvalidRule, NotCarried
from lookedrows.scenes import Scene, places_of
from lookedrows.scopes import Scope
from lookedrows.systems import System
from lookedrows.values import all_columns, is_whole

MOST_RULES = 4
ROW_FORMS = ("number", "own")
NEXT_FORMS = ("number", "own", "next")


def _checked_rules(rules, forms, layout, ahead):
    """The list of the rules of one sort, ahead of which there are so many; raises InvalidRule(index)."""
    if not isinstance(rules, (list, tuple)):
        raise InvalidRule(ahead)
    for index, rule in enumerate(rules):
        if index >= MOST_RULES or not is_rule(rule, forms, layout):
            raise InvalidRule(ahead + index)
    return list(rules)


def is_rule(value, forms, layout):
    """Whether any value is a rule with values of these forms."""
    if not Scope(layout).has_condition(value, forms):
        return False
    return all([part[0] != "found" for _, part in parts(value)])


def _scene_of(layout, judge):
    """The scene of rules over these columns."""
    return Scene(places_of(layout), Board((), {}, judge), {}, {})


def _all_meet(scene, rules, own, behind):
    """Whether all rules hold for a row and the row behind it."""
    # Not by all([..]), for what comes behind a rule that does not hold is not to be asked.
    for rule in rules:
        if not scene.meets(rule, own, behind):
            return False
    return True


def _shows(scene, rows, nexts, cells):
    """Whether three rows show that next rules do not carry."""
    first, second, third = cells
    if _all_meet(scene, nexts, first, third):
        return False
    for own, behind in ((first, second), (second, third)):
        if not _all_meet(scene, nexts, own, behind):
            return False
    for own in cells:
        if not _all_meet(scene, rows, own, ()):
            return False
    return True


def _witness(layout, rows, nexts):
    """A list of three rows that show that next rules do not carry, or None if they do."""
    cells = cells_of(layout, 3)
    start = ascending(3)
    for comparisons, shown in branches(start, lambda judge: _shows(_scene_of(layout, judge), rows, nexts, cells)):
        if shown:
            numbers = System(comparisons).example()
            # A cell that does not occur in the comparisons may have any integer.
            return [tuple([numbers.get(cell[0], 0) for cell in row]) for row in cells]
    return None


class Rules:
    """Row rules and next rules over some columns."""

    def __init__(self, columns, *, rows=(), nexts=()):
        self._columns = all_columns(columns)
        self._rows = _checked_rules(rows, ROW_FORMS, self._columns, 0)
        self._nexts = _checked_rules(nexts, NEXT_FORMS, self._columns, len(self._rows))
        witness = _witness(self._columns, self._rows, self._nexts)
        if witness is not None:
            raise NotCarried(witness)

    @classmethod
    def bare(cls, *columns):
        """No rules."""
        return cls(columns)

    @property
    def columns(self):
        """The tuple of all columns."""
        return self._columns

    def rows(self):
        """The list of the row rules."""
        return list(self._rows)

    def nexts(self):
        """The list of the next rules."""
        return list(self._nexts)

    def first_broken(self, cells, judge):
        """As broken, for rows of numbers."""
        scene = _scene_of(self._columns, judge)
        for index, rule in enumerate(self._rows):
            for place, own in enumerate(cells):
                if not scene.meets(rule, own):
                    return (index, place)
        for index, rule in enumerate(self._nexts):
            for place, own in enumerate(cells[:-1]):
                if not scene.meets(rule, own, cells[place + 1]):
                    return (len(self._rows) + index, place)
        return None

    def broken(self, table):
        """The pair of the indexes of the first rule that does not hold and its first row, or None; ColumnsDiffer()."""
        if table.columns != self._columns:
            raise ColumnsDiffer()
        return self.first_broken(plain_rows(table.rows()), Judge())

    def keeps(self, table):
        """Whether a table has these columns and all rules hold for it."""
        return table.columns == self._columns and self.broken(table) is None

    def some(self, *indexes):
        """The rules with these indexes alone; raises InvalidCount(n), NotCarried(witness)."""
        for index in indexes:
            if not is_whole(index) or not 0 <= index < len(self):
                raise InvalidCount(index)
        rows = [rule for index, rule in enumerate(self._rows) if index in indexes]
        nexts = [rule for index, rule in enumerate(self._nexts) if len(self._rows) + index in indexes]
        return Rules(self._columns[1:], rows=rows, nexts=nexts)

    def __len__(self):
        return len([*self._rows, *self._nexts])

    def __eq__(self, other):
        if not isinstance(other, Rules) or self._columns != other._columns:
            return False
        return self._rows == other._rows and self._nexts == other._nexts

    def __repr__(self):
        return f"Rules({len(self)} rules)"
