"""Questions about procedures, for all tables that keep rules."""

from lookedrows.boards import Board, Judge, laid_out, plain_numbers, plain_rows
from lookedrows.errors import ColumnsDiffer, InvalidArguments, InvalidName, TooWide
from lookedrows.hunts import example_of, first_end
from lookedrows.plans import (again_plans, alike_plans, breaks_plan, keeps_plans, never_plans, twice_plans,
                              undone_plans)
from lookedrows.stages import Setting, is_done
from lookedrows.tables import Table
from lookedrows.values import are_whole, is_name
from lookedrows.verdicts import No, Yes

MOST_LOOKS = 12


def _joined_arguments(procedures):
    """The tuple of the arguments of the first procedure, then those that each further one has besides."""
    names = [name for procedure in procedures for name in procedure.arguments]
    return tuple([name for at, name in enumerate(names) if name not in names[:at]])


class Question:
    """The base class of the questions. It is not asked itself, so there is no table for which it fails."""

    TOPIC = "question"
    # The number of runs of each procedure, and the number of rows that may matter though no run looks at them.
    RUNS = 1
    BESIDE = 0

    def __init__(self, *procedures):
        for procedure in procedures:
            if procedure.columns != procedures[0].columns:
                raise ColumnsDiffer()
        self._procedures = procedures
        self._names = _joined_arguments(procedures)
        self._bodies = [procedure.statements() for procedure in procedures]
        self._sum = sum([procedure.looks for procedure in procedures])

    def procedures(self):
        """The list of the procedures."""
        return list(self._procedures)

    @property
    def columns(self):
        """The tuple of all columns."""
        return self._procedures[0].columns if self._procedures else ("key",)

    @property
    def arguments(self):
        """The tuple of the names of the arguments of all procedures."""
        return self._names

    @property
    def looks(self):
        """The number of looks of all runs of the question."""
        return self.RUNS * self._sum

    @property
    def breadth(self):
        """The number of rows up to which a positive answer has cases."""
        return self.looks + self.BESIDE

    @property
    def topic(self):
        """The word of the question."""
        return self.TOPIC

    def plans(self, rules):
        """The list of the plans, one of which leads to its end where the question fails."""
        return []

    def ask(self, rules):
        """The verdict for all tables that keep rules; raises ColumnsDiffer(), TooWide(most)."""
        if rules.columns != self.columns:
            raise ColumnsDiffer()
        self.check_width()
        setting = Setting(rules, self.columns, {name: (name, 0) for name in self._names})
        end = first_end(self.plans(rules), setting)
        if end is None:
            return Yes(self, rules)
        rows, given = example_of(end[0], end[1])
        return No(self, rules, Table(self.columns[1:], rows), [given[name] for name in self._names])

    def check_width(self):
        """Raises TooWide(most) if the question has too many looks."""
        if self.looks > MOST_LOOKS:
            raise TooWide(MOST_LOOKS)

    def check_table(self, table, numbers):
        """Raises ColumnsDiffer(), InvalidArguments() if the question can't be played so."""
        if table.columns != self.columns:
            raise ColumnsDiffer()
        if not are_whole(numbers, len(self._names)):
            raise InvalidArguments()

    def fails(self, rules, table, *numbers):
        """Whether the question fails for a table and arguments; raises ColumnsDiffer(), InvalidArguments()."""
        if rules.columns != self.columns:
            raise ColumnsDiffer()
        self.check_table(table, numbers)
        setting = Setting(rules, self.columns, dict(zip(self._names, plain_numbers(numbers))))
        order, cells = laid_out(plain_rows(table.rows()))
        return self.is_shown(setting, Board(order, cells, Judge()))

    def is_shown(self, setting, origin):
        """Whether the question fails for a table of integers."""
        return any([is_done(setting, origin, acts) for acts in self.plans(setting.rulebook)])

    def __repr__(self):
        return f"Question({self.topic})"


class Alike(Question):
    """Whether two procedures end in the same way and leave the same table."""

    TOPIC = "alike"
    BESIDE = 1

    def __init__(self, one, other):
        super().__init__(one, other)

    def plans(self, rules):
        """The plans of alike."""
        return alike_plans(self._bodies[0], self._bodies[1])


class Keeps(Question):
    """Whether the table that a procedure leaves keeps the rules."""

    TOPIC = "keeps"
    BESIDE = 2

    def __init__(self, procedure):
        super().__init__(procedure)

    def plans(self, rules):
        """The plans of keeps."""
        return keeps_plans(self._bodies[0], rules)

    def is_shown(self, setting, origin):
        """Whether the table that is left breaks a rule, also if it did so before."""
        return is_done(setting, origin, breaks_plan(self._bodies[0]))


class Never(Question):
    """Whether a procedure does not fail, or not with a certain word."""

    TOPIC = "never"

    def __init__(self, procedure, *, word=None):
        super().__init__(procedure)
        if word is not None and not is_name(word):
            raise InvalidName(word)
        self._word = word

    def plans(self, rules):
        """The plans of never."""
        return never_plans(self._bodies[0], self._word)


class Twice(Question):
    """Whether a second run behind the first one leaves the table of the first one."""

    TOPIC = "twice"
    RUNS = 2
    BESIDE = 1

    def __init__(self, procedure):
        super().__init__(procedure)

    def plans(self, rules):
        """The plans of twice."""
        return twice_plans(self._bodies[0])


class Again(Question):
    """Whether a procedure that was cut off behind some of its statements can be run once more as a whole."""

    TOPIC = "again"
    RUNS = 3
    BESIDE = 1

    def __init__(self, procedure):
        super().__init__(procedure)

    def plans(self, rules):
        """The plans of again."""
        return again_plans(self._bodies[0])


class Undone(Question):
    """Whether a second procedure leads back to the table ahead of the first one, if that one returns."""

    TOPIC = "undone"
    BESIDE = 1

    def __init__(self, one, other):
        super().__init__(one, other)

    def plans(self, rules):
        """The plans of undone."""
        return undone_plans(self._bodies[0], self._bodies[1])
