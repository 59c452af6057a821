"""Point 8: blocks by what a cold shelf of some places misses."""

import unittest

from keepfew.blocks import blocks
from keepfew.goings import best, going
from tests.helper import names, shaped_rows, short_rows

RULES = ("old", "cold", "marked")


def missed_in_block(found, block):
    """How many wishes of a block a Going missed."""
    first, last = block
    return found.were_met[first:last + 1].count(False)


class ByHand(unittest.TestCase):

    def test_no_wishes(self):
        for places in range(1, 21):
            self.assertEqual(blocks(places, []), [])

    def test_one_block(self):
        self.assertEqual(blocks(1, ["a"]), [(0, 0)])
        self.assertEqual(blocks(20, ["a"]), [(0, 0)])
        self.assertEqual(blocks(3, list("abcabc")), [(0, 5)])
        self.assertEqual(blocks(4, list("abcabc")), [(0, 5)])
        self.assertEqual(blocks(1, ["abcdefgh"] * 300), [(0, 299)])

    def test_the_first_one_has_what_is_left_over(self):
        self.assertEqual(blocks(2, list("abcab")), [(0, 0), (1, 2), (3, 4)])
        self.assertEqual(blocks(3, list("abcde")), [(0, 1), (2, 4)])
        self.assertEqual(blocks(4, list("abcde")), [(0, 0), (1, 4)])

    def test_the_first_one_has_as_many_as_there_are_places(self):
        self.assertEqual(blocks(2, list("abcabc")), [(0, 1), (2, 3), (4, 5)])
        self.assertEqual(blocks(3, list("abcdef")), [(0, 2), (3, 5)])

    def test_met_wishes_stand_behind_the_missed_ones(self):
        self.assertEqual(blocks(2, list("aabbcca")), [(0, 3), (4, 6)])
        self.assertEqual(blocks(2, list("aabbccaac")), [(0, 3), (4, 8)])
        self.assertEqual(blocks(2, list("aabbaccc")), [(0, 1), (2, 7)])

    def test_one_place_gives_each_missed_wish_a_block(self):
        self.assertEqual(blocks(1, list("aabac")), [(0, 1), (2, 2), (3, 3), (4, 4)])

    def test_three_hundred_wishes(self):
        self.assertEqual(blocks(20, names(300)),
                         [(first, first + 19) for first in range(0, 300, 20)])
        self.assertEqual(blocks(7, names(300)),
                         [(0, 5)] + [(first, first + 6) for first in range(6, 300, 7)])


class ByTheWords(unittest.TestCase):

    def rows(self):
        return [(wishes, places) for wishes in short_rows("abcd", 6) for places in (1, 2, 3, 4)] \
            + [(wishes, places) for wishes in shaped_rows() for places in range(1, 21)]

    def test_they_part_all_wishes_one_behind_the_other(self):
        for wishes, places in self.rows():
            numbers = []
            for first, last in blocks(places, wishes):
                self.assertLessEqual(first, last)
                numbers += range(first, last + 1)
            self.assertEqual(numbers, list(range(len(wishes))))

    def test_what_the_cold_shelf_misses(self):
        for wishes, places in self.rows():
            cold = going("cold", places, wishes)
            found = blocks(places, wishes)
            for block in found[1:]:
                self.assertFalse(cold.were_met[block[0]])
                self.assertEqual(missed_in_block(cold, block), places)
            for block in found[:1]:
                self.assertIn(missed_in_block(cold, block), range(1, places + 1))

    def test_unlike_things_beside_the_one_right_ahead(self):
        for wishes, places in self.rows():
            for first, last in blocks(places, wishes)[1:]:
                things = set(wishes[first:last + 1]) - {wishes[first - 1]}
                self.assertGreaterEqual(len(things), places)

    def test_what_a_shelf_of_fewer_or_as_many_places_misses(self):
        for wishes, places in [(row, most) for row in short_rows("abcd", 5) for most in (1, 2, 3)] \
                + [(row, most) for row in shaped_rows() for most in (1, 2, 3, 7, 20)]:
            cold = going("cold", places, wishes)
            found = blocks(places, wishes)
            for own in range(1, places + 1):
                others = [going(rule, own, wishes) for rule in RULES] + [best(own, wishes)]
                for other in others:
                    for block in found[:1]:
                        self.assertGreaterEqual(missed_in_block(other, block),
                                                missed_in_block(cold, block))
                    for block in found[1:]:
                        self.assertGreaterEqual(missed_in_block(other, block), places - own + 1)


if __name__ == "__main__":
    unittest.main()
