"""The interface: every name, argument and kind of value as the document lists them."""

import inspect
import unittest

from keepfew import bars, blocks, depths, errors, goings, shelves


class Errors(unittest.TestCase):

    def test_any_refusal_is_a_value_error(self):
        self.assertEqual(errors.KeepError.__bases__, (ValueError,))

    def test_the_four_stand_straight_under_it(self):
        for name in ("BadName", "BadPlaces", "BadRule", "BadWishes"):
            self.assertEqual(getattr(errors, name).__bases__, (errors.KeepError,))

    def test_each_is_defined_there(self):
        for name in ("KeepError", "BadName", "BadPlaces", "BadRule", "BadWishes"):
            self.assertEqual(getattr(errors, name).__module__, "keepfew.errors")


class Arguments(unittest.TestCase):

    def check(self, call, names):
        self.assertEqual(list(inspect.signature(call).parameters), names)

    def test_shelves(self):
        for kind in (shelves.Shelf, shelves.Old, shelves.Cold, shelves.Marked):
            self.check(kind, ["places"])
            self.check(kind.wish, ["self", "name"])
            for name in ("places", "things", "met", "missed"):
                self.check(getattr(kind, name), ["self"])
        self.check(shelves.shelf_of, ["rule", "places"])

    def test_goings(self):
        self.check(goings.Going, ["were_met", "went"])
        self.check(goings.going, ["rule", "places", "wishes"])
        self.check(goings.best, ["places", "wishes"])
        self.check(goings.missed_in, ["found"])

    def test_depths_bars_and_blocks(self):
        self.check(depths.depths, ["wishes"])
        self.check(depths.missed_by_places, ["wishes"])
        self.check(bars.stretches, ["wishes"])
        self.check(bars.bars, ["places", "wishes"])
        self.check(blocks.blocks, ["places", "wishes"])

    def test_by_keyword(self):
        self.assertEqual(shelves.shelf_of(rule="old", places=2).wish(name="a"), (False, None))
        found = goings.going(rule="old", places=2, wishes=["a"])
        self.assertEqual(goings.missed_in(found=found), 1)
        self.assertEqual(goings.best(places=2, wishes=["a"]).went, [None])
        self.assertEqual(goings.Going(were_met=[True], went=[None]).were_met, [True])
        self.assertEqual(depths.depths(wishes=["a", "a"]), [None, 1])
        self.assertEqual(depths.missed_by_places(wishes=["a"]), [1] * 20)
        self.assertEqual(bars.stretches(wishes=["a", "a"]), [(0, 1)])
        self.assertEqual(bars.bars(places=2, wishes=list("abcab")), [2])
        self.assertEqual(blocks.blocks(places=2, wishes=["a"]), [(0, 0)])


class Places(unittest.TestCase):
    """Where a name is defined."""

    def test_each_is_defined_in_the_file_that_lists_it(self):
        for name in ("Shelf", "Old", "Cold", "Marked", "shelf_of"):
            self.assertEqual(getattr(shelves, name).__module__, "keepfew.shelves")
        for name in ("Going", "going", "best", "missed_in"):
            self.assertEqual(getattr(goings, name).__module__, "keepfew.goings")
        for call, module in ((depths.depths, "depths"), (depths.missed_by_places, "depths"),
                             (bars.stretches, "bars"), (bars.bars, "bars"),
                             (blocks.blocks, "blocks")):
            self.assertEqual(call.__module__, "keepfew." + module)

    def test_the_three_stand_straight_under_shelf(self):
        self.assertEqual(shelves.Shelf.__bases__, (object,))
        for kind in (shelves.Old, shelves.Cold, shelves.Marked):
            self.assertEqual(kind.__bases__, (shelves.Shelf,))

    def test_listed_methods_stand_in_the_class_itself(self):
        for name in ("__init__", "wish", "places", "things", "met", "missed"):
            self.assertIn(name, vars(shelves.Shelf))
        self.assertIn("order", vars(shelves.Old))
        self.assertIn("order", vars(shelves.Cold))
        self.assertIn("marks", vars(shelves.Marked))
        self.assertIn("rounds", vars(shelves.Marked))


class Kinds(unittest.TestCase):

    def test_of_shelves(self):
        for rule, kind in (("old", shelves.Old), ("cold", shelves.Cold),
                           ("marked", shelves.Marked)):
            shelf = shelves.shelf_of(rule, 2)
            self.assertIs(type(shelf), kind)
            for name in "abca":
                told = shelf.wish(name)
                self.assertIs(type(told), tuple)
                self.assertEqual(len(told), 2)
                self.assertIs(type(told[0]), bool)
                self.assertIn(type(told[1]), (str, type(None)))
            for number in (shelf.places(), shelf.met(), shelf.missed()):
                self.assertIs(type(number), int)
            self.assertIs(type(shelf.things()), list)

    def test_of_what_the_three_have_of_their_own(self):
        self.assertEqual(shelves.Old(2).order(), [])
        self.assertEqual(shelves.Cold(2).order(), [])
        self.assertEqual(shelves.Marked(2).marks(), [])
        self.assertIs(type(shelves.Marked(2).rounds()), int)

    def test_of_goings(self):
        wishes = list("abcab")
        for found in (goings.going("cold", 2, wishes), goings.best(2, wishes)):
            self.assertIs(type(found), goings.Going)
            self.assertEqual(sorted(vars(found)), ["went", "were_met"])
            self.assertIs(type(found.were_met), list)
            self.assertIs(type(found.went), list)
            self.assertEqual([type(met) for met in found.were_met], [bool] * 5)
            self.assertIs(type(goings.missed_in(found)), int)

    def test_of_depths(self):
        found = depths.depths(list("abba"))
        self.assertIs(type(found), list)
        self.assertEqual([type(depth) for depth in found], [type(None)] * 2 + [int] * 2)
        for wishes in ([], list("abba")):
            found = depths.missed_by_places(wishes)
            self.assertIs(type(found), list)
            self.assertEqual([type(many) for many in found], [int] * 20)

    def check_pairs(self, found, many):
        self.assertIs(type(found), list)
        self.assertEqual([type(pair) for pair in found], [tuple] * many)
        for pair in found:
            self.assertEqual([type(number) for number in pair], [int] * 2)

    def test_of_bars(self):
        self.check_pairs(bars.stretches([]), 0)
        self.check_pairs(bars.stretches(list("abcab")), 2)
        for wishes, many in (([], 0), (list("abcab"), 1)):
            found = bars.bars(2, wishes)
            self.assertIs(type(found), list)
            self.assertEqual([type(bar) for bar in found], [int] * many)

    def test_of_blocks(self):
        self.check_pairs(blocks.blocks(2, []), 0)
        self.check_pairs(blocks.blocks(2, list("abcab")), 3)


if __name__ == "__main__":
    unittest.main()
