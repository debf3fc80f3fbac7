"""Stages: the runs that a question is about, on one table, act by act.

Acts are tuples with their word ahead. The acts of a plan lead to their end if the question fails for the table and the
arguments; if it does not, they go astray somewhere. A plan serves for a table of integers, and for the search for
tables of unknown cells.
"""

from lookedrows.boards import Astray
from lookedrows.plays import Play
from lookedrows.scenes import places_of


class Setting:
    """What stays as it is on all stages of a question: the rules, the columns, and the arguments by name."""

    def __init__(self, rules, layout, given):
        self.rulebook = rules
        self.layout = layout
        self.given = given
        self.places = places_of(layout)


class Stage:
    """The table, the board as it stands now, and what was told by the runs so far."""

    def __init__(self, setting, origin, judge, newest=None):
        self.setting = setting
        self.origin = origin
        self.newest = newest
        self.board = origin.copied(judge)
        self.plays = {}
        self.ends = []
        self.tables = []
        self.base = origin
        self.aside = None

    def copied(self, judge):
        """A stage that stands where this one stands, with another judge."""
        stage = Stage(self.setting, self.origin, judge, self.newest)
        stage.board = self.board.copied(judge)
        stage.plays = {slot: play.copied(stage.board) for slot, play in self.plays.items()}
        stage.ends = list(self.ends)
        stage.tables = list(self.tables)
        stage.base = self.base
        stage.aside = self.aside
        return stage

    def act(self, act):
        """Does one act; raises Astray() if it leads nowhere."""
        action = ACTIONS[act[0]]
        action(self, act)


def _enter(stage, act):
    """The row that was put into the table last keeps the rules, as the others do."""
    if stage.newest is not None:
        beside = stage.origin.told()[max(stage.newest - 1, 0):stage.newest + 2]
        if stage.setting.rulebook.first_broken(beside, stage.board.judge) is not None:
            raise Astray()


def _start(stage, act):
    """The board is as the table is."""
    stage.board.restore(stage.origin)


def _begin(stage, act):
    """A run begins on the board as it stands."""
    stage.plays[act[1]] = Play(stage.setting.places, stage.board, stage.setting.given, {})
    stage.base = stage.board.copied(stage.board.judge)


def _do(stage, act):
    """A run does a statement."""
    _, slot, statement, needed = act
    stage.plays[slot].do(statement, needed)


def _close(stage, act):
    """A run ends; if it failed, the board is as it was when it began."""
    ending = stage.plays[act[1]].finish()
    stage.ends.append(ending)
    if ending[0] == "failed":
        stage.board.restore(stage.base)


def _end(stage, act):
    """A run among others ends. The board is left as it is."""
    stage.ends.append(stage.plays[act[1]].finish())


def _keep(stage, act):
    """The rows are kept in mind."""
    stage.tables.append(stage.board.told())


def _part(stage, act):
    """Two runs that were the same so far go different ways: where they stand is kept in mind."""
    board = stage.board.copied(stage.board.judge)
    stage.aside = (board, stage.plays[act[1]].copied(board))


def _back(stage, act):
    """The second one of two such runs goes on from where they parted."""
    board, play = stage.aside
    stage.board.restore(board)
    stage.plays[act[1]] = play.copied(stage.board)


def _settle(stage, act):
    """The last run has returned, or else there is nothing to fail."""
    if stage.ends[-1][0] == "failed":
        raise Astray()


def _must(stage, act):
    """What the question fails for is the case, or may be the case with some further rows."""
    check = CHECKS[act[1]]
    if check(stage, act):
        stage.board.judge.passes()
    else:
        stage.board.judge.misses(act[2])


ACTIONS = {
    "enter": _enter, "start": _start, "begin": _begin, "do": _do, "close": _close, "end": _end, "keep": _keep,
    "part": _part, "back": _back, "settle": _settle, "must": _must,
}


def _same(judge, one, other):
    """Whether two lists of numbers are the same ones."""
    if len(one) != len(other):
        return False
    for left, right in zip(one, other):
        if left != right and not (judge.atmost(left, right) and judge.atmost(right, left)):
            return False
    return True


def _same_rows(judge, one, other):
    """Whether two lists of rows are the same ones."""
    if len(one) != len(other):
        return False
    for left, right in zip(one, other):
        if not _same(judge, left, right):
            return False
    return True


def _same_ending(judge, one, other):
    """Whether two runs ended in the same way."""
    if one[0] != other[0] or one[0] == "failed":
        return one == other
    return _same(judge, one[1], other[1])


def _is_failed(stage, act):
    """The last run has failed, with a certain word if one is told."""
    ending, word = stage.ends[-1], act[3]
    return ending[0] == "failed" and word in (None, ending[1])


def _is_broken(stage, act):
    """The rows that were kept in mind last break a rule."""
    return stage.setting.rulebook.first_broken(stage.tables[-1], stage.board.judge) is not None


def _is_unlike(stage, act):
    """Two of the tables, or two runs of one of some pairs of them, ended differently."""
    judge = stage.board.judge
    first, second = act[3]
    for one, other in act[4]:
        if not _same_ending(judge, stage.ends[one], stage.ends[other]):
            return True
    return not _same_rows(judge, stage.tables[first], stage.tables[second])


def _is_lost(stage, act):
    """The last run has failed, or it has not led back to the first table."""
    return stage.ends[-1][0] == "failed" or not _same_rows(stage.board.judge, stage.tables[0], stage.tables[-1])


CHECKS = {"failed": _is_failed, "broken": _is_broken, "unlike": _is_unlike, "lost": _is_lost}


def stage_behind(setting, origin, acts):
    """The stage behind acts on a table of integers; raises Astray()."""
    stage = Stage(setting, origin, origin.judge)
    for act in acts:
        stage.act(act)
    return stage


def is_done(setting, origin, acts):
    """Whether acts lead to their end on a table of integers."""
    try:
        stage_behind(setting, origin, acts)
    except Astray:
        return False
    return True
