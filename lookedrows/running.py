"""Runs of procedures on tables."""

from lookedrows.boards import Board, Judge, integers_of, laid_out, plain_numbers, plain_rows
from lookedrows.errors import ColumnsDiffer, InvalidArguments
from lookedrows.plays import Play, played
from lookedrows.scenes import places_of
from lookedrows.tables import Table
from lookedrows.values import are_whole


def _check(procedure, table, numbers):
    """Raises ColumnsDiffer() or InvalidArguments(), if the procedure can't be run so."""
    if procedure.columns != table.columns:
        raise ColumnsDiffer()
    if not are_whole(numbers, len(procedure.arguments)):
        raise InvalidArguments()


def _table_of(table, cells):
    """The table with the columns of another one and with these rows of numbers."""
    return Table(table.columns[1:], [integers_of(row) for row in cells])


def run(procedure, table, *numbers):
    """The pair of the ending and the table behind a run; raises ColumnsDiffer(), InvalidArguments()."""
    _check(procedure, table, numbers)
    ending, cells = played(procedure, plain_rows(table.rows()), plain_numbers(numbers), Judge())
    if ending[0] == "failed":
        return ending, table
    return ("returned", list(integers_of(ending[1]))), _table_of(table, cells)


def walk(procedure, table, *numbers):
    """Yields the tables ahead of the first statement and behind each one that is done; raises as run."""
    _check(procedure, table, numbers)
    order, cells = laid_out(plain_rows(table.rows()))
    board = Board(order, cells, Judge())
    given = dict(zip(procedure.arguments, plain_numbers(numbers)))
    play = Play(places_of(procedure.columns), board, given, {})
    yield table
    for statement in procedure.statements():
        if play.end is None:
            play.do(statement)
            if play.end is None or play.end[0] == "returned":
                yield _table_of(table, board.told())
