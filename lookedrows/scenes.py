"""Scenes: what values and conditions mean on a board."""

from lookedrows.boards import moved


class Broken(Exception):
    """A run has failed with this word."""

    def __init__(self, word):
        self.word = word


def places_of(layout):
    """The dict from the columns to their indexes."""
    return {column: place for place, column in enumerate(layout)}


class Scene:
    """What values speak of: the arguments by name, and the marks of the found rows by name."""

    def __init__(self, places, board, given, found):
        self.places = places
        self.board = board
        self.given = given
        self.found = found

    def mark(self, name):
        """The mark of the found row with a name; raises Broken(word) if it is no row or was deleted."""
        mark = self.found.get(name)
        if mark is None:
            raise Broken("none")
        if mark not in self.board.cells:
            raise Broken("gone")
        return mark

    def number(self, value, own=(), behind=()):
        """The number of a value, where own and next columns are those of these rows; raises as mark."""
        form = value[0]
        if form == "plus":
            return moved(self.number(value[1], own, behind), value[2])
        if form == "number":
            return ("", value[1])
        if form == "name":
            return self.given[value[1]]
        if form == "field":
            return self.board.cells[self.mark(value[1])][self.places[value[2]]]
        row = own if form == "own" else behind
        return row[self.places[value[1]]]

    def meets(self, condition, own=(), behind=()):
        """Whether a condition holds, where own and next columns are those of these rows; raises as mark."""
        form = condition[0]
        if form == "true":
            return True
        if form == "found":
            return self.found.get(condition[1]) is not None
        if form == "not":
            return not self.meets(condition[1], own, behind)
        if form == "and":
            return self.meets(condition[1], own, behind) and self.meets(condition[2], own, behind)
        if form == "or":
            return self.meets(condition[1], own, behind) or self.meets(condition[2], own, behind)
        left = self.number(condition[1], own, behind)
        right = self.number(condition[2], own, behind)
        return self._compares(form, left, right)

    def _compares(self, form, left, right):
        """Whether two numbers are as a comparison of this form tells."""
        judge = self.board.judge
        if form == "below":
            return not judge.atmost(right, left)
        return judge.atmost(left, right) and (form == "atmost" or judge.atmost(right, left))
