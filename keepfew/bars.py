"""Stretches from wish to wish of one thing, and bars that tell why no way meets more."""

from keepfew.checks import check_places, check_wishes


def stretches(wishes):
    """Of each wish whose thing was wished ahead: the number of that last wish, and its own."""
    check_wishes(wishes)
    last = {}
    found = []
    for at, name in enumerate(wishes):
        if name in last:
            found.append((last[name], at))
        last[name] = at
    return found


def bars(places, wishes):
    """Numbers of wishes by which no way meets more than the best way does."""
    check_places(places)
    ahead = _bars_ahead(places, stretches(wishes), len(wishes))
    found = []
    bar = ahead[len(wishes)]
    while bar > 0:
        found.append(bar)
        bar = ahead[bar]
    return found[::-1]


def _bars_ahead(places, pairs, end):
    """Of each number taken as a bar, and of the end: the bar ahead of it, or 0 for none."""
    # A stretch that goes over no bar lies between two neighbours among the bars,
    # so that what they allow adds up from bar to bar, and the bars that allow
    # least are found by going from each number back to those ahead of it. Just
    # these are due: stretches are intervals, and for intervals the least that
    # bars allow is as many as a shelf can meet. No stretch goes over the number
    # 0, so it needs no bar and stands for the beginning.
    again = {early: late for early, late in pairs}
    allowed = [0]
    ahead = [0]
    for at in range(1, end + 1):
        least, bar = _least_allowed(at, allowed, again)
        allowed.append(least + places - 1)
        ahead.append(bar)
    return ahead


def _least_allowed(at, allowed, again):
    """How few met wishes bars can allow up to a number, and the last of these bars."""
    choices = []
    between = 0
    for bar in range(at - 1, -1, -1):
        if bar in again and again[bar] <= at:
            between += 1
        choices.append((allowed[bar] + between, bar))
    return min(choices)
