"""Point 6: the depth of a wish, and what a cold shelf of any size misses."""

import unittest

from keepfew.depths import depths, missed_by_places
from keepfew.goings import going
from keepfew.shelves import Cold
from tests.helper import long_rows, names, shaped_rows, short_rows, wish_all


def depth_by_the_words(at, wishes):
    """The depth of one wish, by the words of point 6."""
    if wishes[at] not in wishes[:at]:
        return None
    last = max(other for other in range(at) if wishes[other] == wishes[at])
    return len(set(wishes[last:at]))


def all_rows():
    return short_rows("abcd", 5) + shaped_rows()


class Depths(unittest.TestCase):

    def test_none_where_it_was_not_wished_ahead(self):
        self.assertEqual(depths(["a"]), [None])
        self.assertEqual(depths(["ab", "a", "b", "abc"]), [None] * 4)

    def test_one_where_it_was_wished_right_ahead(self):
        self.assertEqual(depths(list("aaa")), [None, 1, 1])
        self.assertEqual(depths(list("abba")), [None, None, 1, 2])

    def test_unlike_things_count_once(self):
        self.assertEqual(depths(list("abbbcbca"))[-1], 3)
        self.assertEqual(depths(list("abababa")), [None, None, 2, 2, 2, 2, 2])

    def test_only_what_was_wished_since_the_last_wish_counts(self):
        self.assertEqual(depths(list("abcadad")), [None, None, None, 3, None, 2, 2])
        self.assertEqual(depths(list("abcdcbad")), [None, None, None, None, 2, 3, 4, 4])

    def test_no_wishes(self):
        self.assertEqual(depths([]), [])

    def test_three_hundred_wishes(self):
        self.assertEqual(depths(["abcdefgh"] * 300), [None] + [1] * 299)
        self.assertEqual(depths(names(300)), [None] * 300)
        self.assertEqual(depths(names(150) * 2), [None] * 150 + [150] * 150)

    def test_by_the_words(self):
        for wishes in all_rows():
            self.assertEqual(depths(wishes),
                             [depth_by_the_words(at, wishes) for at in range(len(wishes))])

    def test_a_cold_shelf_meets_just_what_is_no_deeper_than_its_places(self):
        for wishes in all_rows():
            found = depths(wishes)
            for places in range(1, 21):
                self.assertEqual(going("cold", places, wishes).were_met,
                                 [depth is not None and depth <= places for depth in found])


class MissedByPlaces(unittest.TestCase):

    def test_by_hand(self):
        self.assertEqual(missed_by_places(list("abcab")), [5, 5] + [3] * 18)
        self.assertEqual(missed_by_places(list("aabba")), [3] + [2] * 19)

    def test_no_wishes(self):
        self.assertEqual(missed_by_places([]), [0] * 20)

    def test_three_hundred_wishes(self):
        self.assertEqual(missed_by_places(["a"] * 300), [1] * 20)
        self.assertEqual(missed_by_places(names(300)), [300] * 20)
        self.assertEqual(missed_by_places(names(20) * 15), [300] * 19 + [20])
        self.assertEqual(missed_by_places((names(21) * 15)[:300]), [300] * 20)

    def test_the_same_as_cold_shelves_wished_alike(self):
        for wishes in all_rows():
            found = []
            for places in range(1, 21):
                shelf = Cold(places)
                wish_all(shelf, wishes)
                found.append(shelf.missed())
            self.assertEqual(missed_by_places(wishes), found)

    def test_never_rising(self):
        for wishes in all_rows() + long_rows(names(25), 20):
            found = missed_by_places(wishes)
            self.assertEqual(found, sorted(found, reverse=True))


if __name__ == "__main__":
    unittest.main()
