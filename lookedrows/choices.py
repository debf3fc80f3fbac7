"""Choices: how runs on tables with unknown cells go on, for all integers of the cells and arguments.

A run on such a table asks a judge for comparisons. Where those that are known to hold don't tell the answer, both
answers are possible: the run goes on with one of them, and another run, with the same answers up to this one, is to
take the other one. So for all integers there is just one run that goes as it does with them.
"""

from lookedrows.boards import Judge
from lookedrows.bounds import follows, with_all, with_comparison
from lookedrows.systems import turned


def cells_of(layout, many):
    """The list of so many rows of numbers, each of which is a cell."""
    return [tuple([(f"{place}.{column}", 0) for column in layout]) for place in range(many)]


def ascending(many):
    """The list of the comparisons that tell that the keys of so many rows ascend."""
    return [(f"{place}.key", f"{place + 1}.key", -1) for place in range(many - 1)]


class Chooser(Judge):
    """The judge of one run. It takes what follows, and else that a comparison holds."""

    def __init__(self, bounds, comparisons):
        self._bounds = bounds
        self._comparisons = comparisons
        self.others = []

    def atmost(self, left, right):
        """Whether the first number is at most the second one."""
        if left[0] == right[0]:
            return left[1] <= right[1]
        comparison = (left[0], right[0], right[1] - left[1])
        contrary = turned(comparison)
        if follows(self._bounds, comparison):
            return True
        if follows(self._bounds, contrary):
            return False
        # Another run gives the same answers up to here, for they follow from the same bounds.
        self.others.append((self._bounds, [*self._comparisons, contrary]))
        self._bounds = with_comparison(self._bounds, comparison)
        self._comparisons = [*self._comparisons, comparison]
        return True

    def comparisons(self):
        """The list of the comparisons with which the run goes as it does."""
        return list(self._comparisons)


def branches(comparisons, play):
    """Yields the pairs (comparisons, what play tells) of all runs of play(judge) on what solves some comparisons."""
    waiting = [(with_all({}, comparisons), list(comparisons))]
    while waiting:
        bounds, known = waiting.pop()
        # Only the last comparison may be missing in the bounds.
        chooser = Chooser(with_all(bounds, known[-1:]), known)
        told = play(chooser)
        waiting.extend(chooser.others)
        yield chooser.comparisons(), told
