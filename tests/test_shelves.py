"""Points 2 to 4: names and places, met and missed wishes, the three rules."""

import unittest

from keepfew.shelves import Cold, Marked, Old, shelf_of
from tests.helper import long_rows, short_rows, wish_all

ALL = (Old, Cold, Marked)


class Bounds(unittest.TestCase):

    def test_one_and_twenty_places(self):
        for kind in ALL:
            for places in range(1, 21):
                shelf = kind(places)
                self.assertEqual(shelf.places(), places)
                self.assertEqual(shelf.things(), [])

    def test_names_of_one_and_of_eight_letters(self):
        for kind in ALL:
            shelf = kind(20)
            for name in ("a", "z", "ab", "abcdefgh", "zzzzzzzz", "stuvwxyz", "ijklmnop", "qr"):
                self.assertEqual(shelf.wish(name), (False, None))
                self.assertEqual(shelf.wish(name), (True, None))

    def test_twenty_places_hold_twenty_things(self):
        names = [first + second for first in "abcd" for second in "vwxyz"]
        for kind in ALL:
            shelf = kind(20)
            self.assertEqual(wish_all(shelf, names), [(False, None)] * 20)
            self.assertEqual(shelf.things(), names)
            self.assertEqual(shelf.wish("e"), (False, "av"))
            self.assertEqual(len(shelf.things()), 20)

    def test_a_shelf_has_no_bound_of_wishes(self):
        for kind in ALL:
            shelf = kind(1)
            wish_all(shelf, ["a", "b"] * 200)
            self.assertEqual(shelf.missed(), 400)

    def test_things_go_by_their_letters(self):
        for kind in ALL:
            shelf = kind(5)
            wish_all(shelf, ["b", "abc", "ab", "ba", "a"])
            self.assertEqual(shelf.things(), ["a", "ab", "abc", "b", "ba"])


class MetAndMissed(unittest.TestCase):

    def test_a_missed_wish_with_a_free_place(self):
        for kind in ALL:
            shelf = kind(2)
            self.assertEqual(shelf.wish("b"), (False, None))
            self.assertEqual(shelf.wish("a"), (False, None))
            self.assertEqual(shelf.things(), ["a", "b"])
            self.assertEqual((shelf.met(), shelf.missed()), (0, 2))

    def test_a_met_wish(self):
        for kind in ALL:
            shelf = kind(2)
            wish_all(shelf, "ab")
            for name in "abba":
                self.assertEqual(shelf.wish(name), (True, None))
                self.assertEqual(shelf.things(), ["a", "b"])
            self.assertEqual((shelf.met(), shelf.missed()), (4, 2))

    def test_a_missed_wish_without_a_free_place(self):
        for kind in ALL:
            shelf = kind(2)
            wish_all(shelf, "ab")
            self.assertEqual(shelf.wish("c"), (False, "a"))
            self.assertEqual(shelf.things(), ["b", "c"])
            self.assertEqual((shelf.met(), shelf.missed()), (0, 3))

    def test_what_went_is_missed_again(self):
        for kind in ALL:
            shelf = kind(1)
            told = wish_all(shelf, "abaab")
            self.assertEqual(told, [(False, None), (False, "a"), (False, "b"), (True, None),
                                    (False, "a")])
            self.assertEqual(shelf.things(), ["b"])
            self.assertEqual((shelf.met(), shelf.missed()), (1, 4))

    def test_nothing_is_wished_yet(self):
        for kind in ALL:
            self.assertEqual((kind(3).met(), kind(3).missed()), (0, 0))


class TheOld(unittest.TestCase):

    def test_the_first_goes_also_when_it_was_wished_since(self):
        shelf = Old(2)
        wish_all(shelf, "aba")
        self.assertEqual(shelf.order(), ["a", "b"])
        self.assertEqual(shelf.wish("c"), (False, "a"))
        self.assertEqual(shelf.order(), ["b", "c"])

    def test_what_came_again_counts_by_its_last_coming(self):
        shelf = Old(2)
        told = wish_all(shelf, "abcacb")
        self.assertEqual([gone for _, gone in told], [None, None, "a", "b", None, "c"])
        self.assertEqual(shelf.order(), ["a", "b"])

    def test_letters_do_not_count(self):
        shelf = Old(3)
        wish_all(shelf, "cab")
        self.assertEqual(shelf.order(), ["c", "a", "b"])
        self.assertEqual(shelf.wish("d"), (False, "c"))


class TheCold(unittest.TestCase):

    def test_the_one_whose_last_wish_is_longest_ago_goes(self):
        shelf = Cold(2)
        wish_all(shelf, "aba")
        self.assertEqual(shelf.order(), ["b", "a"])
        self.assertEqual(shelf.wish("c"), (False, "b"))
        self.assertEqual(shelf.order(), ["a", "c"])

    def test_a_met_wish_counts_from_any_place(self):
        shelf = Cold(3)
        wish_all(shelf, "abc")
        for name, order in (("b", "acb"), ("a", "cba"), ("a", "cba"), ("c", "bac")):
            self.assertEqual(shelf.wish(name), (True, None))
            self.assertEqual(shelf.order(), list(order))

    def test_a_longer_row(self):
        shelf = Cold(3)
        told = wish_all(shelf, "abcadbea")
        self.assertEqual([gone for _, gone in told],
                         [None, None, None, None, "b", "c", "a", "d"])
        self.assertEqual(shelf.order(), ["b", "e", "a"])


class TheMarked(unittest.TestCase):

    def test_a_mark_by_a_missed_wish_and_by_a_met_one(self):
        shelf = Marked(3)
        wish_all(shelf, "cab")
        self.assertEqual(shelf.marks(), ["a", "b", "c"])
        self.assertEqual(shelf.wish("d"), (False, "a"))
        self.assertEqual(shelf.marks(), ["d"])
        self.assertEqual(shelf.wish("b"), (True, None))
        self.assertEqual(shelf.marks(), ["b", "d"])
        self.assertEqual(shelf.wish("e"), (False, "c"))
        self.assertEqual(shelf.marks(), ["b", "d", "e"])
        self.assertEqual(shelf.things(), ["b", "d", "e"])

    def test_a_round_ends_only_where_one_has_to_go(self):
        shelf = Marked(2)
        for name in "abab":
            shelf.wish(name)
            self.assertEqual(shelf.rounds(), 0)
        self.assertEqual(shelf.marks(), ["a", "b"])
        shelf.wish("c")
        self.assertEqual(shelf.rounds(), 1)

    def test_a_round_ends_only_where_all_have_marks(self):
        shelf = Marked(2)
        rounds = []
        gone = []
        for name in "abcdaba":
            gone.append(shelf.wish(name)[1])
            rounds.append(shelf.rounds())
        self.assertEqual(gone, [None, None, "a", "b", "c", "d", None])
        self.assertEqual(rounds, [0, 0, 1, 1, 2, 2, 2])
        self.assertEqual(shelf.marks(), ["a", "b"])

    def test_the_first_by_letters_goes_not_the_first_that_came(self):
        shelf = Marked(3)
        wish_all(shelf, ["b", "abc", "ab"])
        self.assertEqual([shelf.wish(name)[1] for name in ("x", "y", "z")], ["ab", "abc", "b"])

    def test_a_thing_ahead_by_letters_stays_by_its_mark(self):
        shelf = Marked(3)
        wish_all(shelf, "bcda")
        self.assertEqual(shelf.things(), ["a", "c", "d"])
        self.assertEqual(shelf.wish("b"), (False, "c"))
        self.assertEqual(shelf.wish("c"), (False, "d"))

    def test_one_place_ends_a_round_each_time(self):
        shelf = Marked(1)
        self.assertEqual(wish_all(shelf, "aab"), [(False, None), (True, None), (False, "a")])
        self.assertEqual(shelf.rounds(), 1)
        self.assertEqual(shelf.wish("a"), (False, "b"))
        self.assertEqual((shelf.rounds(), shelf.marks()), (2, ["a"]))


class OnePlace(unittest.TestCase):

    def test_of_old_and_cold(self):
        for kind in (Old, Cold):
            shelf = kind(1)
            told = wish_all(shelf, "bbac")
            self.assertEqual(told, [(False, None), (True, None), (False, "b"), (False, "a")])
            self.assertEqual(shelf.order(), ["c"])


def gone_by_history(rule, there, history):
    """What goes by the words of point 4, from all that was: (NAME, CAME) for each wish."""
    if rule == "old":
        past = [name for name, came in history if came]
    else:
        past = [name for name, _ in history]
    last = {name: at for at, name in enumerate(past)}
    return min(there, key=lambda name: last[name])


class ByTheWords(unittest.TestCase):
    """Whole rows, against the words of the rules read anew at each wish."""

    def rows(self):
        return short_rows("abcd", 6) + long_rows(["ab", "b", "abc", "a", "c", "d", "e"], 40)

    def test_old_and_cold(self):
        for rule in ("old", "cold"):
            for wishes in self.rows():
                for places in (1, 2, 3, 5):
                    self.follow(rule, places, wishes)

    def follow(self, rule, places, wishes):
        shelf = shelf_of(rule, places)
        there = set()
        history = []
        missed = 0
        for name in wishes:
            met = name in there
            gone = None
            if not met and len(there) == places:
                gone = gone_by_history(rule, there, history)
            there = (there - {gone}) | {name}
            history.append((name, not met))
            missed += not met
            self.assertEqual(shelf.wish(name), (met, gone))
        self.assertEqual(shelf.things(), sorted(there))
        self.assertEqual((shelf.met(), shelf.missed()), (len(wishes) - missed, missed))
        order = []
        while there:
            order.append(gone_by_history(rule, there, history))
            there.remove(order[-1])
        self.assertEqual(shelf.order(), order)

    def test_marked(self):
        for wishes in self.rows():
            for places in (1, 2, 3, 5):
                self.follow_marked(places, wishes)

    def follow_marked(self, places, wishes):
        shelf = shelf_of("marked", places)
        marks = {}
        rounds = 0
        for name in wishes:
            gone = None
            met = name in marks
            if not met and len(marks) == places:
                if all(marks.values()):
                    marks = {thing: False for thing in marks}
                    rounds += 1
                gone = sorted(thing for thing in marks if not marks[thing])[0]
                del marks[gone]
            marks[name] = True
            self.assertEqual(shelf.wish(name), (met, gone))
            self.assertEqual(shelf.things(), sorted(marks))
            self.assertEqual(shelf.marks(), sorted(name for name in marks if marks[name]))
            self.assertEqual(shelf.rounds(), rounds)


if __name__ == "__main__":
    unittest.main()
