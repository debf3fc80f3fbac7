"""Plays: runs of procedures on boards."""

from lookedrows.boards import Board, laid_out, moved
from lookedrows.scenes import Broken, Scene, places_of
from lookedrows.statements import fields_in, values_of


class Look:
    """What is sought: the first or the last row in a range for which a condition holds."""

    def __init__(self, scene, end, bounds, condition):
        self.end = end
        self._scene = scene
        self._low = bounds[0]
        self._high = bounds[1]
        self._condition = condition

    def standing(self, cells):
        """Whether a row is ahead of the range, behind it, or in it, and there met or unmet."""
        # The border from which the range is gone through is asked for first.
        if self.end == "first":
            if self._is_ahead(cells[0]):
                return "ahead"
            if self._is_behind(cells[0]):
                return "behind"
        else:
            if self._is_behind(cells[0]):
                return "behind"
            if self._is_ahead(cells[0]):
                return "ahead"
        return "met" if self._scene.meets(self._condition, cells) else "unmet"

    def _is_ahead(self, key):
        """Whether a key is ahead of the range."""
        return self._low is not None and self._scene.board.below(key, self._low)

    def _is_behind(self, key):
        """Whether a key is behind the range."""
        return self._high is not None and not self._scene.board.below(key, self._high)

    def told(self):
        """The mark of the row that is sought, or None."""
        board = self._scene.board
        board.judge.seeks(board, self)
        mark = self._sought(board)
        board.judge.tells(mark)
        return mark

    def _sought(self, board):
        """As told, without a word to the judge."""
        marks, over = board.order, "behind"
        if self.end == "last":
            marks, over = board.order[::-1], "ahead"
        for mark in marks:
            standing = self.standing(board.cells[mark])
            if standing == "met":
                return mark
            if standing == over:
                return None
        return None


def _read_fields(play, statement):
    """Raises Broken(word) for the first field of a statement that can't be read."""
    for field in fields_in(values_of(statement)):
        play.scene.mark(field[1])


def _bounds(play, bounds):
    """The pair of the numbers of the two values of a range."""
    low, high = bounds
    first = None if low is None else play.scene.number(low)
    return first, None if high is None else play.scene.number(high)


def _all_met(play, bounds, condition):
    """The list of the marks of all rows in a range for which a condition holds."""
    look = Look(play.scene, "first", _bounds(play, bounds), condition)
    board = play.board
    return [mark for mark in board.order if look.standing(board.cells[mark]) == "met"]


def _find(play, statement):
    _, name, end, bounds, condition = statement
    _read_fields(play, statement)
    play.look_for(name, Look(play.scene, end, _bounds(play, bounds), condition))


def _step(play, statement):
    _, name, side, start = statement
    if play.scene.found.get(start) is None:
        play.scene.found[name] = None
        return
    key = play.board.cells[play.scene.mark(start)][0]
    if side == "next":
        play.look_for(name, Look(play.scene, "first", (moved(key, 1), None), ("true",)))
    else:
        play.look_for(name, Look(play.scene, "last", (None, key), ("true",)))


def _insert(play, statement):
    _, name, values = statement
    cells = [play.scene.number(value) for value in values]
    key = cells[0]
    if Look(play.scene, "first", (key, moved(key, 1)), ("true",)).told() is not None:
        raise Broken("taken")
    play.scene.found[name] = play.board.put(cells)


def _delete(play, statement):
    play.board.take_off([play.scene.mark(statement[1])])


def _set(play, statement):
    _, name, column, value = statement
    # The row is looked at before the value is read.
    mark = play.scene.mark(name)
    play.board.write(play.scene.places[column], {mark: play.scene.number(value)})


def _clear(play, statement):
    _, bounds, condition = statement
    _read_fields(play, statement)
    # All rows are chosen before one is deleted, for the condition may speak of fields of a deleted one.
    play.board.take_off(_all_met(play, bounds, condition))


def _change(play, statement):
    _, bounds, condition, column, value = statement
    _read_fields(play, statement)
    # All values are worked out before one row is changed, for they may be fields of such a row.
    marks = _all_met(play, bounds, condition)
    numbers = {mark: play.scene.number(value, play.board.cells[mark]) for mark in marks}
    play.board.write(play.scene.places[column], numbers)


def _move(play, statement):
    _, value, k = statement
    key = play.scene.number(value)
    # Keys that grow pass no row, so only for a move back the two rows at the border are looked at.
    if k < 0 and not _leaves_order(play, key, k):
        raise Broken("order")
    play.board.move(key, k)


def _leaves_order(play, key, k):
    """Whether the keys still ascend if k is added to all keys from this one on."""
    low = Look(play.scene, "last", (None, key), ("true",)).told()
    high = Look(play.scene, "first", (key, None), ("true",)).told()
    if low is None or high is None:
        return True
    cells = play.board.cells
    return play.board.below(cells[low][0], moved(cells[high][0], k))


def _if(play, statement):
    _, condition, first, second = statement
    play.go_on(first if play.scene.meets(condition) else second)


def _fail(play, statement):
    raise Broken(statement[1])


def _return(play, statement):
    play.end = ("returned", [play.scene.number(value) for value in statement[1]])


ACTIONS = {
    "find": _find, "step": _step, "insert": _insert, "delete": _delete, "set": _set, "clear": _clear,
    "change": _change, "move": _move, "if": _if, "fail": _fail, "return": _return,
}


class Play:
    """A run of a procedure on a board, statement by statement. It has no end as long as it goes on."""

    def __init__(self, places, board, given, found):
        self.board = board
        self.scene = Scene(places, board, given, found)
        self.end = None
        self._needed = None

    def copied(self, board):
        """A play that stands where this one stands, on another board."""
        play = Play(self.scene.places, board, self.scene.given, dict(self.scene.found))
        play.end = self.end
        return play

    def do(self, statement, needed=None):
        """Does a statement of the procedure's own list; it does nothing once the run has ended.

        If the names of the rows that are needed later are told, other rows are not looked for.
        """
        self._needed = needed
        try:
            self.go_on([statement])
        except Broken as broken:
            self.end = ("failed", broken.word)

    def go_on(self, statements):
        """Does statements in their order until the run ends; raises Broken(word)."""
        for statement in statements:
            if self.end is None:
                action = ACTIONS[statement[0]]
                action(self, statement)

    def look_for(self, name, look):
        """Gives a name to the row that is sought."""
        if self._needed is None or name in self._needed:
            self.scene.found[name] = look.told()
        else:
            self.scene.found[name] = None

    def finish(self):
        """Ends the run behind all statements, and tells the ending."""
        if self.end is None:
            self.end = ("returned", [])
        return self.end


def played(procedure, rows, numbers, judge):
    """The pair of the ending of a procedure on a table with these rows, and the list of the rows at the end."""
    order, cells = laid_out(rows)
    board = Board(order, cells, judge)
    play = Play(places_of(procedure.columns), board, dict(zip(procedure.arguments, numbers)), {})
    for statement in procedure.statements():
        play.do(statement)
    ending = play.finish()
    if ending[0] == "failed":
        return ending, list(rows)
    return ending, board.told()
