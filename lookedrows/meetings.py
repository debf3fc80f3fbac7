"""Questions about procedures that meet: one behind the other, and in turns."""

from math import comb

from lookedrows.boards import Board, Judge, integers_of, laid_out, plain_numbers, plain_rows
from lookedrows.errors import FailsLate, InvalidText, TooWide
from lookedrows.plans import exchanged_plans, turns_of, whole_run, woven_plans
from lookedrows.questions import Question
from lookedrows.stages import Setting, stage_behind
from lookedrows.tables import Table

MOST_WEAVINGS = 20


class Exchanged(Question):
    """Whether two procedures may be run in both orders."""

    TOPIC = "exchanged"
    RUNS = 2
    BESIDE = 1

    def __init__(self, one, other):
        super().__init__(one, other)

    def plans(self, rules):
        """The plans of exchanged."""
        return exchanged_plans(self._bodies[0], self._bodies[1])


def _is_weaving(value, one, other):
    """Whether any value is a string with just so many signs 0 and 1."""
    if not isinstance(value, str) or len(value) != one + other:
        return False
    return value.count("0") == one and value.count("1") == other


def _told_ending(ending):
    """An ending with integers in the place of numbers."""
    return ending if ending[0] == "failed" else ("returned", list(integers_of(ending[1])))


def _ending_key(ending):
    """What tells an ending apart from others."""
    if ending is None or ending[0] == "failed":
        return ending
    return (ending[0], tuple(ending[1]))


def _found_key(play, name):
    """What a run can know of a found row by a name: it is no row, it was deleted, or where it stands."""
    mark = play.scene.found[name]
    if mark is None:
        return (name, "none")
    return (name, play.board.order.index(mark) if mark in play.board.cells else "gone")


def _stage_key(stage):
    """What tells a stage apart from others, as far as it matters for what comes."""
    plays = [stage.plays[slot] for slot in (0, 1)]
    found = [tuple([_found_key(play, name) for name in sorted(play.scene.found)]) for play in plays]
    return (tuple(stage.board.told()), tuple(found), tuple([_ending_key(play.end) for play in plays]))


def _outcome(stage, first, second):
    """The rows of a stage, and what tells two of its endings apart from others."""
    return (stage.board.told(), _ending_key(stage.ends[first]), _ending_key(stage.ends[second]))


class Woven(Question):
    """Whether two procedures that fail early may be done in turns, in whatever order."""

    TOPIC = "woven"
    RUNS = 3
    BESIDE = 2

    def __init__(self, one, other):
        super().__init__(one, other)
        for procedure in (one, other):
            if procedure.late() is not None:
                raise FailsLate(procedure.late())

    def weavings(self):
        """The ascending list of the strings of 0 and 1, one sign for each turn."""
        found = [("", len(self._bodies[0]), len(self._bodies[1]))]
        for _ in range(len(self._bodies[0]) + len(self._bodies[1])):
            longer = []
            for weaving, zeros, ones in found:
                if zeros > 0:
                    longer.append((weaving + "0", zeros - 1, ones))
                if ones > 0:
                    longer.append((weaving + "1", zeros, ones - 1))
            found = longer
        return [weaving for weaving, _, _ in found]

    def woven(self, weaving, table, *numbers):
        """The triple of both endings and the table behind a weaving; InvalidText(), ColumnsDiffer() and the like."""
        one, other = self._bodies
        if not _is_weaving(weaving, len(one), len(other)):
            raise InvalidText()
        self.check_table(table, numbers)
        order, cells = laid_out(plain_rows(table.rows()))
        setting = Setting(None, self.columns, dict(zip(self.arguments, plain_numbers(numbers))))
        acts = [("begin", 0), ("begin", 1), *turns_of(one, other, weaving), ("end", 0), ("end", 1)]
        stage = stage_behind(setting, Board(order, cells, Judge()), acts)
        behind = Table(self.columns[1:], [integers_of(row) for row in stage.board.told()])
        return _told_ending(stage.ends[0]), _told_ending(stage.ends[1]), behind

    def check_width(self):
        """Raises TooWide(most) if the question has too many looks or too many weavings."""
        super().check_width()
        one, other = self._bodies
        if comb(len(one) + len(other), len(one)) > MOST_WEAVINGS:
            raise TooWide(MOST_WEAVINGS)

    def plans(self, rules):
        """The plans of woven."""
        return woven_plans(self._bodies[0], self._bodies[1], self.weavings())

    def is_shown(self, setting, origin):
        """Whether the question fails for a table of integers."""
        one, other = self._bodies
        first = stage_behind(setting, origin, [*whole_run(0, one), *whole_run(1, other)])
        second = stage_behind(setting, origin, [*whole_run(1, other), *whole_run(0, one)])
        orders = (_outcome(first, 0, 1), _outcome(second, 1, 0))
        return any([outcome not in orders for outcome in self._outcomes(setting, origin)])

    def _outcomes(self, setting, origin):
        """The list of the outcomes of all weavings.

        There may be very many of these, but stages that do not differ are gone on with only once.
        """
        one, other = self._bodies
        acts = (turns_of(one, (), "0" * len(one)), turns_of((), other, "1" * len(other)))
        stages = [(0, stage_behind(setting, origin, [("begin", 0), ("begin", 1)]))]
        for turn in range(len(one) + len(other)):
            longer = {}
            for done, stage in stages:
                for slot, at in ((0, done), (1, turn - done)):
                    if at < len(acts[slot]):
                        further = stage.copied(origin.judge)
                        further.act(acts[slot][at])
                        zeros = done + 1 - slot
                        longer[(zeros, _stage_key(further))] = (zeros, further)
            stages = list(longer.values())
        for _, stage in stages:
            stage.act(("end", 0))
            stage.act(("end", 1))
        return [_outcome(stage, 0, 1) for _, stage in stages]
