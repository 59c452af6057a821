"""Points 3 to 5: the Going of each rule, the best way, and what a Going missed."""

import unittest

from keepfew.goings import Going, best, going, missed_in
from keepfew.shelves import shelf_of
from tests.helper import long_rows, short_rows, wish_all

RULES = ("old", "cold", "marked")


class ByARule(unittest.TestCase):

    def test_the_same_as_a_new_shelf_wished_alike(self):
        rows = short_rows("abcd", 5) + long_rows(["ab", "b", "abc", "a", "c", "d"], 20)
        for rule in RULES:
            for wishes in rows:
                for places in (1, 2, 3, 20):
                    shelf = shelf_of(rule, places)
                    told = wish_all(shelf, wishes)
                    found = going(rule, places, wishes)
                    self.assertEqual(list(zip(found.were_met, found.went)), told)
                    self.assertEqual(missed_in(found), shelf.missed())

    def test_each_rule_by_hand(self):
        for rule, went in (("old", [None, None, None, "a", "b", "c"]),
                           ("cold", [None, None, None, "b", None, "c"]),
                           ("marked", [None, None, None, "a", "b", "a"])):
            found = going(rule, 2, list("abacab"))
            self.assertEqual(found.went, went)
        self.assertEqual(going("cold", 2, list("abacab")).were_met,
                         [False, False, True, False, True, False])

    def test_none_and_three_hundred_wishes(self):
        for rule in RULES:
            found = going(rule, 3, [])
            self.assertEqual((found.were_met, found.went), ([], []))
            found = going(rule, 20, ["a", "b", "abcdefgh"] * 100)
            self.assertEqual(found.were_met, [False] * 3 + [True] * 297)
            self.assertEqual(found.went, [None] * 300)

    def test_one_and_twenty_places(self):
        names = [first + second for first in "abc" for second in "tuvwxyz"]
        for rule in RULES:
            self.assertEqual(going(rule, 1, ["b", "a", "a"]).went, [None, "b", None])
            self.assertEqual(going(rule, 20, names).went, [None] * 20 + ["at"])


def fewest_missed(places, wishes):
    """The fewest missed wishes of all ways, by going through every one."""
    fewest = {frozenset(): 0}
    for name in wishes:
        after = {}
        for there, missed in fewest.items():
            if name in there:
                ways = [(there, missed)]
            elif len(there) < places:
                ways = [(there | {name}, missed + 1)]
            else:
                ways = [(there - {gone} | {name}, missed + 1) for gone in there]
            for way, many in ways:
                after[way] = min(many, after.get(way, many))
        fewest = after
    return min(fewest.values())


def gone_by_the_words(there, wishes):
    """What goes by the words of point 5, where these wishes are still to come."""
    never = [name for name in there if name not in wishes]
    if never:
        return min(never)
    return max(there, key=wishes.index)


class TheBestWay(unittest.TestCase):

    def test_the_one_wished_again_latest_goes(self):
        found = best(2, list("abcab"))
        self.assertEqual(found.went, [None, None, "b", None, "a"])
        self.assertEqual(found.were_met, [False, False, False, True, False])

    def test_what_is_not_wished_any_more_goes_ahead_of_these(self):
        found = best(2, list("zaba"))
        self.assertEqual(found.went, [None, None, "z", None])
        found = best(3, list("azbcba"))
        self.assertEqual(found.went, [None, None, None, "z", None, None])

    def test_of_several_the_first_by_letters(self):
        self.assertEqual(best(3, ["b", "abc", "ab", "c"]).went, [None, None, None, "ab"])
        self.assertEqual(best(3, ["b", "abc", "c", "d"]).went, [None, None, None, "abc"])
        self.assertEqual(best(2, list("cabd")).went, [None, None, "a", "b"])

    def test_what_was_met_last_goes_if_it_is_not_wished_any_more(self):
        self.assertEqual(best(2, list("abacb")).went, [None, None, None, "a", None])

    def test_a_missed_thing_comes_even_if_it_is_not_wished_any_more(self):
        found = best(1, list("aba"))
        self.assertEqual(found.went, [None, "a", "b"])
        self.assertEqual(missed_in(found), 3)

    def test_none_and_three_hundred_wishes(self):
        found = best(3, [])
        self.assertEqual((found.were_met, found.went), ([], []))
        found = best(2, ["a", "b", "c"] * 100)
        self.assertEqual(len(found.went), 300)
        self.assertEqual(missed_in(found), 151)

    def test_one_and_twenty_places(self):
        names = [first + second for first in "abc" for second in "tuvwxyz"]
        self.assertEqual(best(1, ["b", "b", "a"]).went, [None, None, "b"])
        self.assertEqual(best(20, names).went, [None] * 20 + ["at"])

    def test_by_the_words(self):
        rows = short_rows("abcd", 6) + long_rows(["ab", "b", "abc", "a", "c", "d", "e"], 40)
        for wishes in rows:
            for places in (1, 2, 3, 5):
                self.follow(places, wishes)

    def follow(self, places, wishes):
        found = best(places, wishes)
        there = set()
        for at, name in enumerate(wishes):
            met = name in there
            gone = None
            if not met and len(there) == places:
                gone = gone_by_the_words(there, wishes[at + 1:])
            there = (there - {gone}) | {name}
            self.assertEqual((found.were_met[at], found.went[at]), (met, gone))

    def test_none_of_all_ways_misses_fewer(self):
        for letters, longest in (("abc", 7), ("abcd", 6), ("abcde", 5)):
            for wishes in short_rows(letters, longest):
                for places in (1, 2, 3, 4):
                    self.assertEqual(missed_in(best(places, wishes)),
                                     fewest_missed(places, wishes))

    def test_none_of_all_ways_misses_fewer_in_longer_rows(self):
        for wishes in long_rows(["ab", "b", "abc", "a", "c", "d", "e"], 20):
            for places in (1, 2, 3, 4):
                many = missed_in(best(places, wishes))
                self.assertEqual(many, fewest_missed(places, wishes))
                for rule in RULES:
                    self.assertLessEqual(many, missed_in(going(rule, places, wishes)))


class MissedIn(unittest.TestCase):

    def test_of_a_going_by_hand(self):
        self.assertEqual(missed_in(Going([], [])), 0)
        self.assertEqual(missed_in(Going([True, True], [None, None])), 0)
        self.assertEqual(missed_in(Going([False, True, False], [None, None, "a"])), 2)


if __name__ == "__main__":
    unittest.main()
