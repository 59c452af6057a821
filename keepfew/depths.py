"""The depth of each wish, and what a cold shelf of any size would miss."""

from keepfew.checks import MOST_PLACES, check_wishes


def depths(wishes):
    """Of each wish how many unlike things were wished since its thing was, or None."""
    check_wishes(wishes)
    # The row holds what was wished in the order of the last wishes, the latest
    # one last: from a thing on it holds just what was wished since, and itself.
    row = []
    found = []
    for name in wishes:
        depth = None
        if name in row:
            depth = len(row) - row.index(name)
            row.remove(name)
        row.append(name)
        found.append(depth)
    return found


def missed_by_places(wishes):
    """How many wishes a cold shelf of 1, 2, .. 20 places misses."""
    told = depths(wishes)
    return [len(told) - _met(told, places) for places in range(1, MOST_PLACES + 1)]


def _met(told, places):
    return len([depth for depth in told if depth is not None and depth <= places])
