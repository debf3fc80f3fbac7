"""Bounds: what follows from comparisons.

Bounds tell for each unknown, for each one that bounds it, the least k by which it does. They are never changed: a
further comparison gives new ones, which share with the old ones what stays as it is.
"""

from lookedrows.systems import turned


def follows(bounds, comparison):
    """Whether a comparison follows from bounds."""
    left, right, k = comparison
    return left in bounds and right in bounds[left] and bounds[left][right] <= k


def with_comparison(bounds, comparison):
    """The bounds together with a comparison whose contrary does not follow from them."""
    left, right, k = comparison
    wider = dict(bounds)
    for unknown in (left, right):
        if unknown not in wider:
            wider[unknown] = {unknown: 0}
    behind = list(wider[right].items())
    for first, least in list(wider.items()):
        if left in least:
            nearer = _nearer(least, least[left] + k, behind)
            if nearer:
                wider[first] = {**least, **nearer}
    return wider


def _nearer(least, k, behind):
    """What bounds an unknown by less than is known so far, if it may go on behind k by these ways."""
    found = {}
    for unknown, further in behind:
        if unknown not in least or k + further < least[unknown]:
            found[unknown] = k + further
    return found


def with_all(bounds, comparisons):
    """The bounds together with all of some comparisons, or None if they do not hold together."""
    for comparison in comparisons:
        if follows(bounds, turned(comparison)):
            return None
        bounds = with_comparison(bounds, comparison)
    return bounds


def comparisons_of(bounds, unknowns):
    """The list of what bounds tell of some unknowns alone, as comparisons."""
    known = [unknown for unknown in unknowns if unknown in bounds]
    return [(left, right, bounds[left][right]) for left in known for right in known
            if left != right and right in bounds[left]]
