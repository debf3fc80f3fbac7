"""Boards: the rows of a table in the course of runs.

A number on a board is a pair (unknown, k): the unknown and the integer k together; the empty unknown is 0. So the same
run serves for one table of integers and for all tables of a kind. A judge tells which of two numbers is at most the
other one, and hears of each look at the rows.

Each row on a board has a mark, which it keeps when it is changed or moved: the rows of the table have 0, 1 and so on,
rows that are put in later have -1, -2 and so on.
"""


class Astray(Exception):
    """What is looked for is not to be had on this way."""


class Judge:
    """The judge of numbers that are all integers. The looks are nothing to it."""

    def atmost(self, left, right):
        """Whether the first number is at most the second one."""
        return left[1] <= right[1]

    def seeks(self, board, look):
        """Hears that a look at the rows of a board begins."""

    def tells(self, mark):
        """Hears which row a look tells, or None."""

    def passes(self):
        """Hears that what must hold for the rows of a board does hold."""

    def misses(self, many):
        """Raises Astray(), for what must hold for the rows of a board does not; so many further rows might help."""
        raise Astray()


def plain_numbers(integers):
    """The tuple of the numbers of some integers."""
    return tuple([("", integer) for integer in integers])


def plain_rows(rows):
    """The list of the rows of numbers of some rows of integers."""
    return [plain_numbers(row) for row in rows]


def integers_of(numbers):
    """The tuple of the integers of some numbers that are all integers."""
    return tuple([number[1] for number in numbers])


def moved(number, k):
    """The number and the integer k together."""
    return (number[0], number[1] + k)


class Board:
    """The marks of the rows, in ascending order of their keys, and the cells of each.

    The two are never changed in themselves, so that boards may share them.
    """

    def __init__(self, order, cells, judge, made=0):
        self.order = order
        self.cells = cells
        self.judge = judge
        self.made = made

    def copied(self, judge):
        """A board with the same rows and another judge."""
        return Board(self.order, self.cells, judge, self.made)

    def restore(self, other):
        """Takes over the rows of another board."""
        self.order = other.order
        self.cells = other.cells
        self.made = other.made

    def told(self):
        """The list of the rows, as tuples of numbers."""
        return [self.cells[mark] for mark in self.order]

    def below(self, left, right):
        """Whether the first number is less than the second one."""
        return not self.judge.atmost(right, left)

    def take_off(self, marks):
        """Deletes the rows with some marks."""
        gone = {mark: True for mark in marks}
        self.order = tuple([mark for mark in self.order if mark not in gone])
        self.cells = {mark: self.cells[mark] for mark in self.order}

    def put(self, cells):
        """Puts in a new row, with a key that no row has, and tells its mark."""
        at = self._first_from(cells[0])
        self.made += 1
        mark = -self.made
        self.order = (*self.order[:at], mark, *self.order[at:])
        self.cells = {**self.cells, mark: tuple(cells)}
        return mark

    def _first_from(self, key):
        """The index of the first row whose key is at least this one, or the number of rows."""
        for at, mark in enumerate(self.order):
            if self.judge.atmost(key, self.cells[mark][0]):
                return at
        return len(self.order)

    def write(self, place, numbers):
        """Changes the cell at a place of each row whose mark has a number."""
        changed = {}
        for mark, number in numbers.items():
            row = self.cells[mark]
            changed[mark] = (*row[:place], number, *row[place + 1:])
        self.cells = {**self.cells, **changed}

    def move(self, key, k):
        """Adds k to all keys from this one on."""
        later = self.order[self._first_from(key):]
        self.write(0, {mark: moved(self.cells[mark][0], k) for mark in later})


def laid_out(rows):
    """The pair of the order and the cells of a board with these rows."""
    marks = list(range(len(rows)))
    return tuple(marks), {mark: rows[mark] for mark in marks}
