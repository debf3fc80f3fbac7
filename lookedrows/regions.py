"""Regions: the arguments for which some table that keeps rules leads to an ending of a procedure."""

from lookedrows.bounds import comparisons_of
from lookedrows.errors import ColumnsDiffer, InvalidArguments, TooWide
from lookedrows.hunts import all_ends
from lookedrows.plans import ending_plan
from lookedrows.stages import Setting
from lookedrows.systems import System
from lookedrows.values import are_whole

MOST_LOOKS = 6
# No word with which a procedure fails is as long.
RETURNED = "returned"


def _with_system(systems, system):
    """The list of systems with a further one, without those that others contain."""
    if any([system.within(other) for other in systems]):
        return systems
    return [*[other for other in systems if not other.within(system)], system]


class Outlook:
    """What may become of a procedure on tables that keep rules, by its arguments."""

    def __init__(self, rules, procedure):
        if rules.columns != procedure.columns:
            raise ColumnsDiffer()
        if procedure.looks > MOST_LOOKS:
            raise TooWide(MOST_LOOKS)
        self._rules = rules
        self._procedure = procedure
        self._regions = None

    def returns(self):
        """The region of returning, as a list of open systems."""
        return list(self._by_ending().get(RETURNED, []))

    def fails(self, *words):
        """The region of failing with one of these words, or with any word if none is passed."""
        regions = self._by_ending()
        return [system for word in self.words() if not words or word in words for system in regions[word]]

    def may_return(self, *numbers):
        """Whether some table leads to a return with these arguments; raises InvalidArguments()."""
        known = self._known(numbers)
        return any([known in system for system in self.returns()])

    def may_fail(self, *numbers, word=None):
        """Whether some table leads to a failure, with a certain word if one is told; raises InvalidArguments()."""
        known = self._known(numbers)
        region = self.fails() if word is None else self.fails(word)
        return any([known in system for system in region])

    def surely_returns(self, *numbers):
        """Whether all tables lead to a return with these arguments; raises InvalidArguments()."""
        known = self._known(numbers)
        return not any([known in system for system in self.fails()])

    def words(self):
        """The ascending list of the words with which the procedure can fail."""
        return sorted([word for word in self._by_ending() if word != RETURNED])

    def _known(self, numbers):
        """The dict of the arguments; raises InvalidArguments()."""
        names = self._procedure.arguments
        if not are_whole(numbers, len(names)):
            raise InvalidArguments()
        return dict(zip(names, numbers))

    def _by_ending(self):
        """The dict from the words of the endings to their regions."""
        # They are worked out when they are asked for, for they may be many.
        if self._regions is None:
            self._regions = self._found()
        return self._regions

    def _found(self):
        """As _by_ending."""
        names = self._procedure.arguments
        setting = Setting(self._rules, self._procedure.columns, {name: (name, 0) for name in names})
        found = {}
        for bounds, stage in all_ends(ending_plan(self._procedure.statements()), setting):
            ending = stage.ends[0]
            word = RETURNED if ending[0] == "returned" else ending[1]
            system = System(comparisons_of(bounds, ["", *names]))
            found[word] = _with_system(found.get(word, []), system)
        return found
