"""Boards: the rows of a table in the course of runs.

A number on a board is a pair (unknown, k): the unknown and the integer k together; the empty unknown is 0. So the same
run serves for one table of integers and for all tables of a kind. A judge tells which of two numbers is at most the
other one.
"""


class Plain:
    """The judge of numbers that are all integers."""

    def atmost(self, left, right):
        """Whether the first number is at most the second one."""
        return left[1] <= right[1]


def plain_numbers(integers):
    """The tuple of the numbers of some integers."""
    return tuple([("", integer) for integer in integers])


def plain_rows(rows):
    """The list of the rows of numbers of some rows of integers."""
    return [plain_numbers(row) for row in rows]


def integers_of(numbers):
    """The tuple of the integers of some numbers that are all integers."""
    return tuple([number[1] for number in numbers])


def moved(number, k):
    """The number and the integer k together."""
    return (number[0], number[1] + k)


class Line:
    """A row on a board. It stays the same one when it is changed, moved or deleted."""

    def __init__(self, cells):
        self.cells = list(cells)
        self.gone = False


class Board:
    """The rows of a table in the course of runs, in ascending order of their keys."""

    def __init__(self, cells, judge):
        self.judge = judge
        self.lines = [Line(row) for row in cells]

    def told(self):
        """The list of the rows, as tuples of numbers."""
        return [tuple(line.cells) for line in self.lines]

    def below(self, left, right):
        """Whether the first number is less than the second one."""
        return not self.judge.atmost(right, left)

    def delete(self, line):
        """Takes a row off the board."""
        line.gone = True
        self.lines = [other for other in self.lines if not other.gone]

    def put(self, cells):
        """Puts a new row on the board and returns it, or None if there is a row with its key."""
        at = self.first_from(cells[0])
        if at < len(self.lines) and self.judge.atmost(self.lines[at].cells[0], cells[0]):
            return None
        line = Line(cells)
        self.lines = [*self.lines[:at], line, *self.lines[at:]]
        return line

    def first_from(self, key):
        """The index of the first row whose key is at least this one, or the number of rows."""
        for at, line in enumerate(self.lines):
            if self.judge.atmost(key, line.cells[0]):
                return at
        return len(self.lines)

    def move(self, key, k):
        """Adds k to all keys from this one on, and returns True; returns False if they would not ascend any more."""
        at = self.first_from(key)
        if 0 < at < len(self.lines):
            if not self.below(self.lines[at - 1].cells[0], moved(self.lines[at].cells[0], k)):
                return False
        for line in self.lines[at:]:
            line.cells[0] = moved(line.cells[0], k)
        return True

    def beside(self, line, step):
        """The row so many places behind a row on the board, or None."""
        # A row counts as itself here, whatever its cells are.
        for at, other in enumerate(self.lines):
            if other == line:
                return self.lines[at + step] if 0 <= at + step < len(self.lines) else None
        return None
