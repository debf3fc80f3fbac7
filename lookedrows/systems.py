"""Systems of comparisons: whether they are open, their solutions, and what they say of some of their unknowns."""

from lookedrows.errors import InvalidComparison, NotOpen
from lookedrows.values import is_column, is_name, is_whole


def is_unknown(value):
    """Whether any value is an unknown: a name, a cell, or the empty string for 0."""
    if not isinstance(value, str):
        return False
    index, dot, column = value.partition(".")
    if dot:
        return _is_index(index) and is_column(column)
    return value == "" or is_name(value)


def _is_index(word):
    """Whether a string is an index, written without leading zeros."""
    if word == "" or any([not "0" <= digit <= "9" for digit in word]):
        return False
    return word == "0" or word[0] != "0"


def _checked_comparisons(comparisons):
    """The list of the comparisons without repeated ones; raises InvalidComparison(index)."""
    if not isinstance(comparisons, (list, tuple)):
        raise InvalidComparison(0)
    for index, comparison in enumerate(comparisons):
        if not _is_comparison(comparison):
            raise InvalidComparison(index)
    return list({comparison: True for comparison in comparisons})


def _is_comparison(value):
    """Whether any value is a comparison."""
    if not isinstance(value, tuple) or len(value) != 3:
        return False
    return is_unknown(value[0]) and is_unknown(value[1]) and is_whole(value[2])


def turned(comparison):
    """The comparison that holds where this one does not."""
    left, right, k = comparison
    return (right, left, -k - 1)


def comparison_text(comparison):
    """The text of a comparison."""
    left, right, k = comparison
    text = f"{left or 0} <= {right or 0}"
    if k == 0:
        return text
    return f"{text} + {k}" if k > 0 else f"{text} - {-k}"


def _solved(comparisons):
    """The pair of a solution and a ring, of which one is None; 0 has a place of its own in the solution."""
    places = {"": 0}
    for left, right, _ in comparisons:
        places[left] = 0
        places[right] = 0
    lowering = {}
    # Each unknown is lowered until all comparisons hold. Where there is no ring, one round less than there are
    # unknowns is enough, so a last round that still lowers one shows a ring.
    for _ in range(len(places)):
        lowered = None
        for index, (left, right, k) in enumerate(comparisons):
            if places[right] + k < places[left]:
                places[left] = places[right] + k
                lowering[left] = index
                lowered = left
        if lowered is None:
            return places, None
    return None, _ring_behind(comparisons, lowering, lowered)


def _ring_behind(comparisons, lowering, unknown):
    """The tuple of the indexes of a ring, to which the comparisons lead that lowered the unknowns last."""
    for _ in range(len(lowering)):
        unknown = comparisons[lowering[unknown]][1]
    ring = []
    while lowering[unknown] not in ring:
        ring.append(lowering[unknown])
        unknown = comparisons[lowering[unknown]][1]
    return tuple(ring)


def _bounds_of(comparisons, left):
    """The dict from each unknown that bounds another one to the least k by which it does; of an open system."""
    bounds = {left: 0}
    changed = True
    while changed:
        changed = False
        for first, second, k in comparisons:
            if first in bounds and (second not in bounds or bounds[first] + k < bounds[second]):
                bounds[second] = bounds[first] + k
                changed = True
    return bounds


class System:
    """A list of comparisons (left, right, k): left is at most right and k together."""

    def __init__(self, comparisons=()):
        self._comparisons = _checked_comparisons(comparisons)
        solved = _solved(self._comparisons)
        self._places = solved[0]
        self._ring = solved[1]

    def comparisons(self):
        """The list of the comparisons, without repeated ones."""
        return list(self._comparisons)

    def unknowns(self):
        """The ascending list of the unknowns, without the empty one."""
        sides = [side for left, right, _ in self._comparisons for side in (left, right)]
        return [side for side in sorted(set(sides)) if side != ""]

    @property
    def is_open(self):
        """Whether there is a solution."""
        return self._places is not None

    def ring(self):
        """The tuple of the indexes of a ring, or None if the system is open."""
        return self._ring

    def least(self, left, right):
        """The least k for which left is always at most right and k together, or None; raises NotOpen()."""
        if not self.is_open:
            raise NotOpen()
        return _bounds_of(self._comparisons, left).get(right)

    def example(self):
        """A solution, as a dict from the unknowns to integers; raises NotOpen()."""
        if not self.is_open:
            raise NotOpen()
        return {unknown: self._places[unknown] - self._places[""] for unknown in self.unknowns()}

    def on(self, unknowns):
        """The system over some unknowns, whose solutions can be extended to solutions of this one; NotOpen()."""
        if not self.is_open:
            raise NotOpen()
        chosen = sorted(set(["", *unknowns]))
        found = []
        for left in chosen:
            bounds = _bounds_of(self._comparisons, left)
            found.extend([(left, right, bounds[right]) for right in chosen if right != left and right in bounds])
        return System(found)

    def outside(self):
        """A list of systems, of which just one holds wherever this one does not."""
        found = []
        for index, comparison in enumerate(self._comparisons):
            system = System([*self._comparisons[:index], turned(comparison)])
            if system.is_open:
                found.append(system)
        return found

    def __and__(self, other):
        return System([*self._comparisons, *other._comparisons])

    def within(self, other):
        """Whether each solution of this system solves the other one."""
        return not self.is_open or all([self._follows(comparison) for comparison in other._comparisons])

    def _follows(self, comparison):
        """Whether a comparison holds in each solution of this system, which is open."""
        least = self.least(comparison[0], comparison[1])
        return least is not None and least <= comparison[2]

    def __eq__(self, other):
        return isinstance(other, System) and self.within(other) and other.within(self)

    def __contains__(self, x):
        known = {**x, "": 0}
        if not all([unknown in known for unknown in self.unknowns()]):
            return False
        return all([known[left] <= known[right] + k for left, right, k in self._comparisons])

    def __len__(self):
        return len(self._comparisons)

    def told(self):
        """The texts of the comparisons, or `true` for none."""
        return " and ".join([comparison_text(comparison) for comparison in self._comparisons]) or "true"

    def __repr__(self):
        return f"System({self.told()})"
