"""Plays: runs of procedures on boards."""

from lookedrows.boards import Board
from lookedrows.scenes import Broken, Scene
from lookedrows.statements import fields_in, values_of


def _read_fields(play, statement):
    """Raises Broken(word) for the first field of a statement that can't be read."""
    for field in fields_in(values_of(statement)):
        play.scene.line(field[1])


def _is_met(play, line, bounds, condition):
    """Whether a row is in a range and a condition holds for it."""
    low, high = bounds
    key = line.cells[0]
    if low is not None and play.board.below(key, play.scene.number(low)):
        return False
    if high is not None and not play.board.below(key, play.scene.number(high)):
        return False
    return play.scene.meets(condition, line.cells)


def _first_met(play, lines, bounds, condition):
    """The first of some rows that is in a range and for which a condition holds, or None."""
    for line in lines:
        if _is_met(play, line, bounds, condition):
            return line
    return None


def _all_met(play, bounds, condition):
    """The list of all rows in a range for which a condition holds."""
    return [line for line in play.board.lines if _is_met(play, line, bounds, condition)]


def _find(play, statement):
    _, name, end, bounds, condition = statement
    _read_fields(play, statement)
    lines = play.board.lines if end == "first" else play.board.lines[::-1]
    play.scene.found[name] = _first_met(play, lines, bounds, condition)


def _step(play, statement):
    _, name, side, start = statement
    line = None
    if play.scene.found.get(start) is not None:
        line = play.board.beside(play.scene.line(start), 1 if side == "next" else -1)
    play.scene.found[name] = line


def _insert(play, statement):
    _, name, values = statement
    line = play.board.put([play.scene.number(value) for value in values])
    if line is None:
        raise Broken("taken")
    play.scene.found[name] = line


def _delete(play, statement):
    play.board.delete(play.scene.line(statement[1]))


def _set(play, statement):
    _, name, column, value = statement
    # The row is looked at before the value is read.
    line = play.scene.line(name)
    line.cells[play.scene.place(column)] = play.scene.number(value)


def _clear(play, statement):
    _, bounds, condition = statement
    _read_fields(play, statement)
    # All rows are chosen before one is deleted, for the condition may speak of fields of a deleted one.
    for line in _all_met(play, bounds, condition):
        play.board.delete(line)


def _change(play, statement):
    _, bounds, condition, column, value = statement
    _read_fields(play, statement)
    lines = _all_met(play, bounds, condition)
    # All values are worked out before one row is changed, for they may be fields of such a row.
    numbers = [play.scene.number(value, line.cells) for line in lines]
    for line, number in zip(lines, numbers):
        line.cells[play.scene.place(column)] = number


def _move(play, statement):
    _, value, k = statement
    if not play.board.move(play.scene.number(value), k):
        raise Broken("order")


def _if(play, statement):
    _, condition, first, second = statement
    play.go_on(first if play.scene.meets(condition) else second)


def _fail(play, statement):
    raise Broken(statement[1])


def _return(play, statement):
    play.end = ("returned", [play.scene.number(value) for value in statement[1]])


ACTIONS = {
    "find": _find, "step": _step, "insert": _insert, "delete": _delete, "set": _set, "clear": _clear,
    "change": _change, "move": _move, "if": _if, "fail": _fail, "return": _return,
}


class Play:
    """A run of a procedure on a board, statement by statement. It has no end as long as it goes on."""

    def __init__(self, procedure, board, numbers):
        self.board = board
        self.scene = Scene(procedure.columns, board.judge, dict(zip(procedure.arguments, numbers)))
        self.end = None

    def do(self, statement):
        """Does a statement of the procedure's own list; it does nothing once the run has ended."""
        try:
            self.go_on([statement])
        except Broken as broken:
            self.end = ("failed", broken.word)

    def go_on(self, statements):
        """Does statements in their order until the run ends; raises Broken(word)."""
        for statement in statements:
            if self.end is None:
                action = ACTIONS[statement[0]]
                action(self, statement)

    def finish(self):
        """Ends the run behind all statements, and tells the ending."""
        if self.end is None:
            self.end = ("returned", [])
        return self.end


def played(procedure, cells, numbers, judge):
    """The pair of the ending of a procedure on a table with these rows, and the list of the rows at the end."""
    board = Board(cells, judge)
    play = Play(procedure, board, numbers)
    for statement in procedure.statements():
        play.do(statement)
    ending = play.finish()
    if ending[0] == "failed":
        return ending, list(cells)
    return ending, board.told()
