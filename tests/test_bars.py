"""Point 7: stretches, and bars that allow just what the best way meets."""

import os
import subprocess
import sys
import unittest

from keepfew.bars import bars, stretches
from keepfew.goings import best, going
from tests.helper import long_rows, names, shaped_rows, short_rows

ROOT = os.path.dirname(os.path.dirname(os.path.abspath(__file__)))


def stretches_by_the_words(wishes):
    """All pairs of two wishes of one thing with none of it between, by the later one."""
    return [(early, late) for late in range(len(wishes)) for early in range(late)
            if wishes[early] == wishes[late] and wishes[late] not in wishes[early + 1:late]]


def goes_over(stretch, at):
    return stretch[0] < at < stretch[1]


def allowed_by(found, places, wishes):
    """More wishes than this no way meets, by these bars."""
    free = [stretch for stretch in stretches_by_the_words(wishes)
            if not any(goes_over(stretch, bar) for bar in found)]
    return len(free) + (places - 1) * len(found)


class Stretches(unittest.TestCase):

    def test_by_hand(self):
        self.assertEqual(stretches(list("abcab")), [(0, 3), (1, 4)])
        self.assertEqual(stretches(list("aaa")), [(0, 1), (1, 2)])

    def test_rising_by_the_later_one(self):
        self.assertEqual(stretches(list("abba")), [(1, 2), (0, 3)])
        self.assertEqual(stretches(list("abcbaca")), [(1, 3), (0, 4), (2, 5), (4, 6)])

    def test_unlike_names_that_begin_alike(self):
        self.assertEqual(stretches(["a", "ab", "abc", "ab", "b"]), [(1, 3)])

    def test_none(self):
        for wishes in ([], ["a"], ["a", "b"], names(300)):
            self.assertEqual(stretches(wishes), [])

    def test_three_hundred_wishes(self):
        self.assertEqual(stretches(["a"] * 300), [(at, at + 1) for at in range(299)])
        self.assertEqual(stretches(names(150) * 2), [(at, at + 150) for at in range(150)])

    def test_by_the_words(self):
        for wishes in short_rows("abcd", 5) + shaped_rows():
            self.assertEqual(stretches(wishes), stretches_by_the_words(wishes))

    def test_one_for_each_wish_that_was_wished_ahead(self):
        for wishes in shaped_rows():
            self.assertEqual([late for _, late in stretches(wishes)],
                             [at for at in range(len(wishes)) if wishes[at] in wishes[:at]])


class Bars(unittest.TestCase):

    def check(self, places, wishes):
        found = bars(places, wishes)
        self.assertEqual(found, sorted(set(found)))
        self.assertEqual([bar for bar in found if bar not in range(len(wishes))], [])
        self.assertEqual(allowed_by(found, places, wishes),
                         best(places, wishes).were_met.count(True), (places, wishes))

    def test_where_only_one_list_will_do(self):
        # Two stretches, of which one can be met: only the number 2 lies in both.
        self.assertEqual(bars(2, list("abcab")), [2])
        # Three stretches, of which two can be met: only the number 3 lies in all.
        self.assertEqual(bars(3, list("abcdabc")), [3])

    def test_no_wishes(self):
        for places in range(1, 21):
            self.assertEqual(bars(places, []), [])

    def test_where_each_stretch_can_be_met(self):
        for wishes in (["a"], list("abc"), ["a"] * 300, names(300)):
            for places in range(1, 21):
                self.check(places, wishes)

    def test_one_place_meets_only_what_was_wished_right_ahead(self):
        for wishes in (list("aba"), list("abba"), list("aabab"), ["a", "b", "c"] * 100):
            self.check(1, wishes)
            found = bars(1, wishes)
            for stretch in stretches(wishes):
                if stretch[1] - stretch[0] > 1:
                    self.assertTrue(any(goes_over(stretch, bar) for bar in found))

    def test_more_places_than_names(self):
        for places in (5, 6, 20):
            for wishes in long_rows("abcd", 5) + long_rows("abcd", 1, 300):
                self.check(places, wishes)

    def test_short_rows(self):
        for letters, longest in (("abc", 7), ("abcd", 6), ("abcde", 5)):
            for wishes in short_rows(letters, longest):
                for places in (1, 2, 3, 4):
                    self.check(places, wishes)

    def test_rows_of_many_shapes(self):
        for wishes in shaped_rows():
            for places in range(1, 21):
                self.check(places, wishes)

    def test_no_rule_meets_more_than_bars_allow(self):
        for wishes in long_rows(names(9), 5):
            for places in (1, 2, 3, 5, 8):
                allowed = allowed_by(bars(places, wishes), places, wishes)
                for rule in ("old", "cold", "marked"):
                    self.assertLessEqual(going(rule, places, wishes).were_met.count(True), allowed)


class EachTime(unittest.TestCase):

    def test_the_same_list_each_time(self):
        rows = shaped_rows()
        for places in (1, 2, 3, 7):
            first = [bars(places, wishes) for wishes in rows]
            self.assertEqual([bars(places, list(wishes)) for wishes in rows], first)

    def test_the_same_list_in_another_run(self):
        code = ("from keepfew.bars import bars\n"
                "from tests.helper import names, long_rows\n"
                "rows = long_rows(names(9), 5)\n"
                "print([bars(places, row) for places in (1, 2, 3, 5) for row in rows])\n")
        told = []
        for seed in ("0", "1", "2"):
            env = dict(os.environ, PYTHONHASHSEED=seed, PYTHONPATH=ROOT)
            told.append(subprocess.run([sys.executable, "-c", code], cwd=ROOT, env=env,
                                       capture_output=True, check=True, text=True).stdout)
        rows = long_rows(names(9), 5)
        here = [bars(places, row) for places in (1, 2, 3, 5) for row in rows]
        self.assertEqual(told, [f"{here}\n"] * 3)


if __name__ == "__main__":
    unittest.main()
