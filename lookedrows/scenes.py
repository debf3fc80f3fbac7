"""Scenes: what values and conditions mean on a board."""

from lookedrows.boards import moved


class Broken(Exception):
    """A run has failed with this word."""

    def __init__(self, word):
        self.word = word


class Scene:
    """What values speak of: the arguments by name, and the found rows of a run by name."""

    def __init__(self, layout, judge, given):
        self._layout = {column: at for at, column in enumerate(layout)}
        self._judge = judge
        self._given = given
        self.found = {}

    def place(self, column):
        """The index of a column."""
        return self._layout[column]

    def line(self, name):
        """The found row with a name; raises Broken(word) if it is no row or was deleted."""
        line = self.found.get(name)
        if line is None:
            raise Broken("none")
        if line.gone:
            raise Broken("gone")
        return line

    def number(self, value, own=(), behind=()):
        """The number of a value, where own and next columns are those of these rows; raises as line."""
        form = value[0]
        if form == "plus":
            return moved(self.number(value[1], own, behind), value[2])
        if form == "number":
            return ("", value[1])
        if form == "name":
            return self._given[value[1]]
        if form == "field":
            return self.line(value[1]).cells[self.place(value[2])]
        row = own if form == "own" else behind
        return row[self.place(value[1])]

    def meets(self, condition, own=(), behind=()):
        """Whether a condition holds, where own and next columns are those of these rows; raises as line."""
        form = condition[0]
        if form == "true":
            return True
        if form == "found":
            return self.found.get(condition[1]) is not None
        if form == "not":
            return not self.meets(condition[1], own, behind)
        if form == "and":
            return self.meets(condition[1], own, behind) and self.meets(condition[2], own, behind)
        if form == "or":
            return self.meets(condition[1], own, behind) or self.meets(condition[2], own, behind)
        left = self.number(condition[1], own, behind)
        right = self.number(condition[2], own, behind)
        return self._compares(form, left, right)

    def _compares(self, form, left, right):
        """Whether two numbers are as a comparison of this form tells."""
        if form == "below":
            return not self._judge.atmost(right, left)
        return self._judge.atmost(left, right) and (form == "atmost" or self._judge.atmost(right, left))
