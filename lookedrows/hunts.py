"""Hunts: the search for tables and arguments for which the acts of a plan lead to their end.

A row at which no run looks can be left out. So a table is made up of the rows that the runs look at, in the order in
which they do so for the first time: where a look may tell a row that is not there yet, the hunt goes on with the table
as it is, and also with each table with such a further row. There the runs begin anew, and must look at the same rows
as before, until this look tells the new row. A row at which no run looks, but which must be there for what the plan is
about, is put in likewise.

The cells of all rows are unknown. Where a run asks for a comparison which is not known, it goes on with both answers.
"""

from lookedrows.boards import Astray, Board, Judge
from lookedrows.bounds import comparisons_of, follows, with_all, with_comparison
from lookedrows.stages import Stage
from lookedrows.systems import System, turned


class Unsure(Exception):
    """A comparison is not known."""


class Node:
    """Where a hunt can go on: a stage, the next act, and what has been told by the looks and is known so far."""

    def __init__(self, stage, place, bounds, further, script, forked):
        self.stage = stage
        # The index of the next act, and the number of looks ahead of it.
        self.place = place
        # What is known, and the comparisons that are to be added.
        self.bounds = bounds
        self.further = further
        # The rows that the looks tell, as far as they are settled; and the number of looks which have been cared for
        # with further rows.
        self.script = script
        self.forked = forked


class Guide(Judge):
    """The judge of one way. It keeps in mind where other ways begin."""

    def __init__(self, node, bounds):
        self.bounds = bounds
        self.script = node.script
        self.ways = []
        self.forks = []
        self._forked = node.forked
        self._at = node.place[1]
        self._stage = node.stage
        self._place = node.place
        self._sure = False

    def stand(self, stage, act):
        """Keeps in mind from where other ways have to go on from now on."""
        self._stage = stage
        self._place = (act, self._at)

    def atmost(self, left, right):
        """Whether the first number is at most the second one."""
        if left[0] == right[0]:
            return left[1] <= right[1]
        comparison = (left[0], right[0], right[1] - left[1])
        contrary = turned(comparison)
        if follows(self.bounds, comparison):
            return True
        if follows(self.bounds, contrary):
            return False
        if self._sure:
            raise Unsure()
        self.ways.append(Node(self._stage, self._place, self.bounds, [contrary], self.script, self._forked))
        self.bounds = with_comparison(self.bounds, comparison)
        return True

    def seeks(self, board, look):
        """A look begins: it may tell a row that is not there yet."""
        if self._at < self._forked:
            return
        low, high = self._slots(board, look)
        self.forks.append((self.bounds, self.script, low, high))
        self._forked = self._at + 1

    def _slots(self, board, look):
        """The first and the last place in the table where a further row may stand that a look tells."""
        places = {mark: place for place, mark in enumerate(self._stage.origin.order)}
        low, high = 0, len(places)
        for mark in board.order:
            standing = self._known_standing(look, board.cells[mark]) if mark in places else None
            if standing == "ahead" or (standing == "met" and look.end == "last"):
                low = max(low, places[mark] + 1)
            if standing == "behind" or (standing == "met" and look.end == "first"):
                high = min(high, places[mark])
        return low, high

    def _known_standing(self, look, cells):
        """How a row stands to a look, if that is known, or else None."""
        self._sure = True
        try:
            standing = look.standing(cells)
        except Unsure:
            standing = None
        self._sure = False
        return standing

    def tells(self, mark):
        """A look tells a row; raises Astray() if it should have told another one."""
        if self._at < len(self.script):
            if self.script[self._at] != mark:
                raise Astray()
        else:
            self.script = (*self.script, mark)
        self._at += 1

    def passes(self):
        """What must hold does hold. Its place in the script is that of the further row that made it hold."""
        if self._at == len(self.script):
            self.script = (*self.script, None)
        self._at += 1
        self._forked = max(self._forked, self._at)

    def misses(self, many):
        """What must hold does not; raises Astray(), and keeps in mind where further rows may help."""
        tries = len(self.script) - self._at
        if tries < many:
            # Of two further rows the second one stands behind the first one.
            low = self._stage.newest + 1 if tries > 0 else 0
            self.forks.append((self.bounds, self.script, low, len(self._stage.origin.order)))
        raise Astray()


class Hunt:
    """The search for what leads to the end of the acts of a plan."""

    def __init__(self, setting, acts):
        self._acts = [("enter",), *acts]
        stage = Stage(setting, Board((), {}, None), None)
        # The nodes by the number of rows of their tables.
        self._waiting = [[Node(stage, (0, 0), {}, [], (), 0)]]

    def has(self, many):
        """Whether the hunt can go on with tables of so many rows."""
        return many < len(self._waiting) and len(self._waiting[many]) > 0

    def go_on(self, many):
        """Goes one way on with a table of so many rows, and tells the pair (bounds, stage) of its end, or None."""
        node = self._waiting[many].pop()
        bounds = with_all(node.bounds, node.further)
        if bounds is None:
            return None
        guide = Guide(node, bounds)
        stage = node.stage
        told = None
        try:
            for index in range(node.place[0], len(self._acts)):
                guide.stand(stage, index)
                stage = stage.copied(guide)
                stage.act(self._acts[index])
            told = (guide.bounds, stage)
        except Astray:
            pass
        self._waiting[many].extend(guide.ways)
        self._fork(node.stage, guide.forks)
        return told

    def _fork(self, stage, forks):
        """Adds the nodes with a further row, one for each place of it."""
        many = len(stage.origin.order) + 1
        if len(self._waiting) == many:
            self._waiting.append([])
        for bounds, script, low, high in forks:
            for place in range(low, high + 1):
                rows, around = _with_row(stage, place)
                known = (*script, many - 1)
                further = Stage(stage.setting, rows, None, place)
                self._waiting[many].append(Node(further, (0, 0), bounds, around, known, len(known)))


def _with_row(stage, place):
    """The pair of the rows of a stage with a further one at a place, and the list of what its key is known for."""
    order, cells = stage.origin.order, stage.origin.cells
    mark = len(order)
    row = tuple([(f"{mark}.{column}", 0) for column in stage.setting.layout])
    around = []
    if place > 0:
        around.append((cells[order[place - 1]][0][0], row[0][0], -1))
    if place < mark:
        around.append((row[0][0], cells[order[place]][0][0], -1))
    return Board((*order[:place], mark, *order[place:]), {**cells, mark: row}, None), around


def first_end(plans, setting):
    """The pair (bounds, stage) of an end of one of some plans with the fewest rows, or None if there is no end."""
    hunts = [Hunt(setting, acts) for acts in plans]
    many = 0
    while any([hunt.has(many) for hunt in hunts]):
        for hunt in hunts:
            while hunt.has(many):
                told = hunt.go_on(many)
                if told is not None:
                    return told
        many += 1
    return None


def all_ends(acts, setting):
    """The list of the pairs (bounds, stage) of all ends of a plan."""
    hunt = Hunt(setting, acts)
    found = []
    many = 0
    while hunt.has(many):
        while hunt.has(many):
            told = hunt.go_on(many)
            if told is not None:
                found.append(told)
        many += 1
    return found


def example_of(bounds, stage):
    """The pair of rows and of the dict of arguments, all of integers, of which bounds and a stage tell."""
    names = [number[0] for number in stage.setting.given.values()]
    rows = stage.origin.told()
    unknowns = ["", *names, *[number[0] for row in rows for number in row]]
    numbers = System(comparisons_of(bounds, unknowns)).example()
    # What does not occur in the comparisons may be any integer.
    given = {name: numbers.get(name, 0) for name in names}
    return [tuple([numbers.get(number[0], 0) for number in row]) for row in rows], given
