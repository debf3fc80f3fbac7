"""Choices: how runs on tables with unknown cells go on, for all integers of the cells and arguments.

A run on such a table asks a judge for comparisons. Where those that are known to hold don't tell the answer, both
answers are possible: the run goes on with one of them, and another run, with the same answers up to this one, is to
take the other one. So for all integers there is just one run that goes as it does with them.
"""

from lookedrows.systems import turned


def cells_of(layout, many):
    """The list of so many rows of numbers, each of which is a cell."""
    return [tuple([(f"{place}.{column}", 0) for column in layout]) for place in range(many)]


def ascending(many):
    """The list of the comparisons that tell that the keys of so many rows ascend."""
    return [(f"{place}.key", f"{place + 1}.key", -1) for place in range(many - 1)]


def _with_comparison(bounds, comparison):
    """The bounds together with a comparison, with which they are open.

    Bounds tell for each unknown, for each one that bounds it, the least k by which it does.
    """
    left, right, k = comparison
    wider = {unknown: dict(bounds[unknown]) for unknown in bounds}
    for unknown in (left, right):
        if unknown not in wider:
            wider[unknown] = {unknown: 0}
    behind = list(wider[right].items())
    for first in [unknown for unknown in wider if left in wider[unknown]]:
        least = wider[first]
        for second, further in behind:
            way = least[left] + k + further
            if second not in least or way < least[second]:
                least[second] = way
    return wider


class Chooser:
    """The judge of one run: it gives some answers again, and then takes the first possible one of each."""

    def __init__(self, answers, bounds, comparisons):
        self._answers = answers
        self._asked = 0
        self._bounds = bounds
        self._comparisons = comparisons
        self.others = []

    def atmost(self, left, right):
        """Whether the first number is at most the second one."""
        if left[0] == right[0]:
            return left[1] <= right[1]
        if self._asked == len(self._answers):
            # A new list, for the choosers of other runs share the one before.
            self._answers = [*self._answers, self._answer((left[0], right[0], right[1] - left[1]))]
        self._asked += 1
        return self._answers[self._asked - 1]

    def _answer(self, comparison):
        """Whether a comparison holds; if both is possible, it does, and another chooser is kept for the contrary."""
        contrary = turned(comparison)
        if self._follows(comparison):
            return True
        if self._follows(contrary):
            return False
        self.others.append(self._choosing(False, contrary))
        self._bounds = _with_comparison(self._bounds, comparison)
        self._comparisons = [*self._comparisons, comparison]
        return True

    def _follows(self, comparison):
        """Whether a comparison follows from those that are known."""
        left, right, k = comparison
        return left in self._bounds and right in self._bounds[left] and self._bounds[left][right] <= k

    def _choosing(self, answer, comparison):
        """The chooser of a run with the same answers, then this one, for which the comparison holds."""
        bounds = _with_comparison(self._bounds, comparison)
        return Chooser([*self._answers, answer], bounds, [*self._comparisons, comparison])

    def comparisons(self):
        """The list of the comparisons with which the run goes as it does."""
        return list(self._comparisons)


def branches(comparisons, play):
    """Yields the pairs (comparisons, what play tells) of all runs of play(judge) on what solves some comparisons."""
    bounds = {}
    for comparison in comparisons:
        bounds = _with_comparison(bounds, comparison)
    waiting = [Chooser([], bounds, list(comparisons))]
    while waiting:
        chooser = waiting.pop()
        told = play(chooser)
        waiting.extend(chooser.others)
        yield chooser.comparisons(), told
