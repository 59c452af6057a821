"""Points 1 and 2: what is refused, as what, and in which order."""

import unittest

from keepfew.bars import bars, stretches
from keepfew.blocks import blocks
from keepfew.depths import depths, missed_by_places
from keepfew.errors import BadName, BadPlaces, BadRule, BadWishes, KeepError
from keepfew.goings import best, going
from keepfew.shelves import Cold, Marked, Old, shelf_of
from tests.helper import (WRONG_NAMES, WRONG_PLACES, WRONG_RULES, assert_refused, long_rows,
                          wish_all, wrong_wishes)

RULES = ("old", "cold", "marked")
OF_WISHES = (depths, missed_by_places, stretches)
OF_PLACES_AND_WISHES = (best, bars, blocks)


class Alone(unittest.TestCase):
    """One wrong value, all else good."""

    def test_names(self):
        for kind in (Old, Cold, Marked):
            for before in ("", "ab"):
                shelf = kind(2)
                wish_all(shelf, before)
                for wrong in WRONG_NAMES:
                    assert_refused(self, BadName, shelf.wish, wrong)

    def test_places(self):
        for wrong in WRONG_PLACES:
            for kind in (Old, Cold, Marked):
                assert_refused(self, BadPlaces, kind, wrong)
            for rule in RULES:
                assert_refused(self, BadPlaces, shelf_of, rule, wrong)
                assert_refused(self, BadPlaces, going, rule, wrong, ["a"])
            for call in OF_PLACES_AND_WISHES:
                assert_refused(self, BadPlaces, call, wrong, ["a"])
                assert_refused(self, BadPlaces, call, wrong, [])

    def test_rules(self):
        for wrong in WRONG_RULES:
            assert_refused(self, BadRule, shelf_of, wrong, 3)
            assert_refused(self, BadRule, going, wrong, 3, ["a"])
            assert_refused(self, BadRule, going, wrong, 3, [])

    def test_wishes(self):
        for wrong in wrong_wishes():
            for rule in RULES:
                assert_refused(self, BadWishes, going, rule, 2, wrong)
            for call in OF_PLACES_AND_WISHES:
                assert_refused(self, BadWishes, call, 2, wrong)
            for call in OF_WISHES:
                assert_refused(self, BadWishes, call, wrong)

    def test_at_the_bounds_nothing_is_refused(self):
        for wishes in ([], ["abcdefgh"] * 300):
            for places in (1, 20):
                for rule in RULES:
                    going(rule, places, wishes)
                for call in OF_PLACES_AND_WISHES:
                    call(places, wishes)
            for call in OF_WISHES:
                call(wishes)


class Together(unittest.TestCase):
    """Several wrong values at once: the word told first is due."""

    def test_a_rule_ahead_of_places(self):
        for rule in WRONG_RULES:
            for places in WRONG_PLACES:
                assert_refused(self, BadRule, shelf_of, rule, places)
                assert_refused(self, BadRule, going, rule, places, ["a"])
                assert_refused(self, BadRule, going, rule, places, None)

    def test_a_rule_ahead_of_wishes(self):
        for rule in WRONG_RULES:
            for wishes in (None, "a", ("a",), ["a", "B"], [None], ["a"] * 301):
                assert_refused(self, BadRule, going, rule, 3, wishes)

    def test_places_ahead_of_wishes(self):
        for places in WRONG_PLACES:
            for wishes in (None, "a", ("a",), ["a", "B"], [None], ["a"] * 301):
                assert_refused(self, BadPlaces, going, "cold", places, wishes)
                for call in OF_PLACES_AND_WISHES:
                    assert_refused(self, BadPlaces, call, places, wishes)


class Afterwards(unittest.TestCase):

    def test_a_refusal_changes_nothing_handed_in(self):
        calls = [lambda wishes: going("old", 2, wishes), lambda wishes: going("old", 0, wishes)]
        for places in (0, 2):
            for call in OF_PLACES_AND_WISHES:
                calls.append(lambda wishes, call=call, places=places: call(places, wishes))
        for call in calls + list(OF_WISHES):
            wishes = ["a", "b", "C", "a"]
            self.assertRaises(KeepError, call, wishes)
            self.assertEqual(wishes, ["a", "b", "C", "a"])

    def test_a_refusal_changes_nothing_told_later(self):
        for wishes in long_rows("abcde", 3):
            before = [(found.were_met, found.went) for found in (best(2, wishes),
                                                                 going("marked", 2, wishes))]
            self.assertRaises(BadWishes, best, 2, wishes + ["A"])
            self.assertRaises(BadWishes, going, "marked", 2, wishes + ["A"])
            after = [(found.were_met, found.went) for found in (best(2, wishes),
                                                                going("marked", 2, wishes))]
            self.assertEqual(after, before)

    def test_a_refusal_changes_nothing_told_later_of_depths_bars_and_blocks(self):
        for wishes in long_rows("abcde", 3):
            for call in OF_WISHES:
                before = call(wishes)
                self.assertRaises(BadWishes, call, wishes + ["A"])
                self.assertEqual(call(wishes), before)
            for call in (bars, blocks):
                before = call(2, wishes)
                self.assertRaises(BadWishes, call, 2, wishes + ["A"])
                self.assertRaises(BadPlaces, call, 21, wishes)
                self.assertEqual(call(2, wishes), before)


if __name__ == "__main__":
    unittest.main()
