"""Shelves of a few places, and the three rules by which things go."""

from keepfew.checks import check_name, check_places, check_rule


class Shelf:
    """What all shelves share. It is not made itself: it has no rule of what goes."""

    def __init__(self, places):
        check_places(places)
        self._size = places
        self._row = []
        self._met = 0
        self._missed = 0

    def wish(self, name):
        """Wish a thing: whether it was met, and the name of what went, or None."""
        check_name(name)
        met = name in self._row
        gone = None
        if met:
            self._met += 1
        else:
            self._missed += 1
            gone = self._free_a_place()
            self._row.append(name)
        self._note_wish(name)
        return (met, gone)

    def places(self):
        """The number of places."""
        return self._size

    def things(self):
        """All that is there, by letters."""
        return sorted(self._row)

    def met(self):
        """How many wishes were met."""
        return self._met

    def missed(self):
        """How many wishes were missed."""
        return self._missed

    def _free_a_place(self):
        if len(self._row) < self._size:
            return None
        gone = self._pick_going()
        self._row.remove(gone)
        return gone

    def _pick_going(self):
        """The name of what goes by the shelf's rule, from a full shelf."""
        raise NotImplementedError("a shelf is made as an old, a cold or a marked one")

    def _note_wish(self, name):
        """Remember of a wish what the rule needs; the thing is there by now."""


class Old(Shelf):
    """The one that came first goes."""

    def order(self):
        """All that is there, what would go next first."""
        return list(self._row)

    def _pick_going(self):
        return self._row[0]


class Cold(Shelf):
    """The one whose last wish is longest ago goes."""

    def order(self):
        """All that is there, what would go next first."""
        return list(self._row)

    def _pick_going(self):
        return self._row[0]

    def _note_wish(self, name):
        # The row stays in the order of the last wishes, the latest one last.
        self._row.remove(name)
        self._row.append(name)


class Marked(Shelf):
    """The first by letters without a mark goes; marks last for a round."""

    def __init__(self, places):
        Shelf.__init__(self, places)
        self._marks = {}
        self._rounds = 0

    def marks(self):
        """Those with marks, by letters."""
        return sorted(self._marks)

    def rounds(self):
        """How many rounds ended."""
        return self._rounds

    def _pick_going(self):
        # Only what is there has a mark, so equal numbers mean that all have one.
        if len(self._marks) == len(self._row):
            self._marks = {}
            self._rounds += 1
        return min([name for name in self._row if name not in self._marks])

    def _note_wish(self, name):
        self._marks[name] = True


def shelf_of(rule, places):
    """A new shelf of the rule "old", "cold" or "marked"."""
    check_rule(rule)
    if rule == "old":
        return Old(places)
    if rule == "cold":
        return Cold(places)
    return Marked(places)
