"""What goes at each wish of a row: by a shelf's rule, or the best way."""

from keepfew.checks import check_places, check_wishes
from keepfew.shelves import shelf_of


class Going:
    """Of each wish: whether it was met, and what went, or None."""

    def __init__(self, were_met, went):
        self.were_met = list(were_met)
        self.went = list(went)


def going(rule, places, wishes):
    """The Going of a new shelf of that rule."""
    shelf = shelf_of(rule, places)
    check_wishes(wishes)
    were_met = []
    went = []
    for name in wishes:
        met, gone = shelf.wish(name)
        were_met.append(met)
        went.append(gone)
    return Going(were_met, went)


def best(places, wishes):
    """The Going of the best way, which knows all wishes."""
    check_places(places)
    check_wishes(wishes)
    were_met = []
    went = []
    again = {}
    for name, wished_again in zip(wishes, _wished_again(wishes)):
        gone = None
        met = name in again
        if not met and len(again) == places:
            gone = _latest_again(again)
            del again[gone]
        again[name] = wished_again
        were_met.append(met)
        went.append(gone)
    return Going(were_met, went)


def missed_in(found):
    """How many wishes a Going missed."""
    return found.were_met.count(False)


def _wished_again(wishes):
    """Of each wish the number of the next wish of its thing."""
    # What isn't wished any more counts as wished behind the end, so that it
    # goes ahead of all else.
    behind = len(wishes)
    ahead = {}
    found = []
    for at in range(len(wishes) - 1, -1, -1):
        found.append(ahead.get(wishes[at], behind))
        ahead[wishes[at]] = at
    return found[::-1]


def _latest_again(again):
    """The first by letters of those that are wished again latest."""
    latest = max(again.values())
    return min([name for name in again if again[name] == latest])
