"""Point 1: what is told is the asker's own, what is handed in is neither changed nor kept."""

import unittest

from keepfew.bars import bars, stretches
from keepfew.blocks import blocks
from keepfew.depths import depths, missed_by_places
from keepfew.errors import BadName
from keepfew.goings import Going, best, going, missed_in
from keepfew.shelves import Cold, Marked, Old
from tests.helper import WRONG_NAMES, assert_refused, state_of, wish_all

ALL = (Old, Cold, Marked)
RULES = ("old", "cold", "marked")


def spoil(told):
    """Change a list in many ways."""
    told.reverse()
    told.append("x")
    told.insert(0, "y")
    del told[1:]


class OfShelves(unittest.TestCase):

    def check_spoiled(self, shelf, ask):
        state = state_of(shelf)
        first = ask()
        kept = list(first)
        spoil(first)
        self.assertEqual(ask(), kept)
        self.assertEqual(state_of(shelf), state)

    def test_told_lists_may_be_changed(self):
        for kind in ALL:
            shelf = kind(3)
            wish_all(shelf, "cabad")
            self.check_spoiled(shelf, shelf.things)
            if kind == Marked:
                self.check_spoiled(shelf, shelf.marks)
            else:
                self.check_spoiled(shelf, shelf.order)

    def test_changed_lists_do_not_change_what_goes(self):
        for kind in ALL:
            shelf, twin = kind(3), kind(3)
            for name in "cabadbeacdbbaec":
                for ask in ("things", "order", "marks"):
                    if hasattr(shelf, ask):
                        spoil(getattr(shelf, ask)())
                self.assertEqual(shelf.wish(name), twin.wish(name))

    def test_told_lists_are_not_changed_by_later_wishes(self):
        for kind in ALL:
            shelf = kind(3)
            wish_all(shelf, "cab")
            asks = [getattr(shelf, name) for name in ("things", "order", "marks")
                    if hasattr(shelf, name)]
            told = [ask() for ask in asks]
            kept = [list(rows) for rows in told]
            wish_all(shelf, "bdcea")
            self.assertEqual(told, kept)

    def test_two_shelves_have_nothing_in_common(self):
        for kind in ALL:
            for other in ALL:
                shelf, beside = kind(2), other(2)
                wish_all(shelf, "ab")
                state = state_of(shelf)
                wish_all(beside, "cdaeb")
                self.assertEqual(state_of(shelf), state)
                self.assertEqual(state_of(kind(2))[1:4], [[], 0, 0])

    def test_a_refused_wish_leaves_the_shelf_as_it_was(self):
        for kind in ALL:
            for before in ("", "ab", "abc", "abcdb"):
                shelf, twin = kind(3), kind(3)
                wish_all(shelf, before)
                wish_all(twin, before)
                state = state_of(shelf)
                for wrong in WRONG_NAMES:
                    assert_refused(self, BadName, shelf.wish, wrong)
                    self.assertEqual(state_of(shelf), state)
                self.assertEqual(wish_all(shelf, "eabcf"), wish_all(twin, "eabcf"))
                self.assertEqual(state_of(shelf), state_of(twin))


def ways():
    """Each way from wishes to a Going."""
    found = [lambda wishes: best(2, wishes)]
    for rule in RULES:
        found.append(lambda wishes, rule=rule: going(rule, 2, wishes))
    return found


class OfGoings(unittest.TestCase):

    def test_wishes_stay_as_they_were(self):
        for way in ways():
            wishes = list("abcabdca")
            way(wishes)
            self.assertEqual(wishes, list("abcabdca"))

    def test_a_going_does_not_follow_the_wishes(self):
        for way in ways():
            wishes = list("abcabdca")
            found = way(wishes)
            kept = (list(found.were_met), list(found.went))
            spoil(wishes)
            self.assertEqual((found.were_met, found.went), kept)

    def test_changed_lists_change_nothing_told_later(self):
        for way in ways():
            first, second = way(list("abcabdca")), way(list("abcabdca"))
            kept = (list(first.were_met), list(first.went))
            spoil(first.were_met)
            spoil(first.went)
            self.assertEqual((second.were_met, second.went), kept)
            third = way(list("abcabdca"))
            self.assertEqual((third.were_met, third.went), kept)

    def test_a_going_keeps_none_of_the_lists_that_it_was_made_of(self):
        were_met, went = [False, True, False], [None, None, "a"]
        found = Going(were_met, went)
        self.assertEqual((were_met, went), ([False, True, False], [None, None, "a"]))
        spoil(were_met)
        spoil(went)
        self.assertEqual((found.were_met, found.went), ([False, True, False], [None, None, "a"]))
        self.assertEqual(missed_in(found), 2)

    def test_a_changed_going_changes_no_list_that_it_was_made_of(self):
        were_met, went = [False, True, False], [None, None, "a"]
        found = Going(were_met, went)
        spoil(found.were_met)
        spoil(found.went)
        self.assertEqual((were_met, went), ([False, True, False], [None, None, "a"]))

    def test_counting_changes_nothing(self):
        found = going("old", 2, list("abcab"))
        kept = (list(found.were_met), list(found.went))
        self.assertEqual(missed_in(found), missed_in(found))
        self.assertEqual((found.were_met, found.went), kept)


# Each way from wishes to a list that tells of them.
LISTS = (
    depths, missed_by_places, stretches,
    lambda wishes: bars(1, wishes), lambda wishes: bars(2, wishes),
    lambda wishes: blocks(1, wishes), lambda wishes: blocks(2, wishes),
)


class OfDepthsBarsAndBlocks(unittest.TestCase):

    def test_wishes_stay_as_they_were(self):
        for way in LISTS:
            for wishes in (list("abcabdca"), []):
                kept = list(wishes)
                way(wishes)
                self.assertEqual(wishes, kept)

    def test_what_is_told_does_not_follow_the_wishes(self):
        for way in LISTS:
            wishes = list("abcabdca")
            found = way(wishes)
            kept = list(found)
            spoil(wishes)
            self.assertEqual(found, kept)

    def test_changed_wishes_are_read_anew(self):
        for way in LISTS:
            wishes = list("abcabdca")
            kept = way(wishes)
            spoil(wishes)
            self.assertNotEqual(way(wishes), kept)
            self.assertEqual(way(list("abcabdca")), kept)

    def test_changed_lists_change_nothing_told_later(self):
        for way in LISTS:
            for wishes in (list("abcabdca"), []):
                first, second = way(wishes), way(wishes)
                kept = list(first)
                spoil(first)
                self.assertEqual(second, kept)
                self.assertEqual(way(wishes), kept)
                for other in LISTS:
                    spoil(other(wishes))
                self.assertEqual(way(wishes), kept)


if __name__ == "__main__":
    unittest.main()
