"""Point 4: shelves."""

import unittest

from oneline.shelves import Shelf

from joined import shelf_of


def pair_of(weight, sign="a"):
    """A pair with a name of one sign that weighs so much."""
    return (sign, sign * (weight - 5))


class ShelfTest(unittest.TestCase):

    def test_a_shelf_is_empty_at_first(self):
        self.assertEqual(Shelf().pairs, [])

    def test_two_shelves_share_nothing(self):
        one, other = Shelf(), Shelf()
        one.put(("a", "b"))
        self.assertEqual(other.pairs, [])

    def test_one_pair(self):
        shelf = shelf_of(("name", "value"))
        self.assertEqual(shelf.pairs, [("name", "value")])
        self.assertIsInstance(shelf.pairs, list)
        self.assertIsInstance(shelf.pairs[0], tuple)

    def test_put_gives_back_nothing(self):
        self.assertIsNone(Shelf().put(("a", "b")))

    def test_the_newest_is_ahead(self):
        self.assertEqual(shelf_of(("a", "1"), ("b", "2"), ("c", "3")).pairs, [("c", "3"), ("b", "2"), ("a", "1")])

    def test_the_same_pair_twice_stands_there_twice(self):
        self.assertEqual(shelf_of(("a", "1"), ("b", ""), ("a", "1")).pairs, [("a", "1"), ("b", ""), ("a", "1")])

    def test_a_pair_weighs_its_signs_and_four(self):
        # Pairs with a name of one sign and no value weigh 5: nineteen weigh 95, twenty 100.
        pairs = [(sign, "") for sign in "abcdefghijklmnopqrst"]
        self.assertEqual(len(shelf_of(*pairs[:19]).pairs), 19)
        self.assertEqual(shelf_of(*pairs).pairs, pairs[:0:-1])

    def test_96_stays(self):
        self.assertEqual(len(shelf_of(pair_of(24), pair_of(24), pair_of(24), pair_of(24)).pairs), 4)
        self.assertEqual(len(shelf_of(("eightsig", "t" * 20), ("eightsig", "u" * 20), ("eightsig", "v" * 20)).pairs), 3)

    def test_97_does_not_stay(self):
        pairs = [pair_of(24, "a"), pair_of(24, "b"), pair_of(24, "c"), pair_of(25, "d")]
        self.assertEqual(shelf_of(*pairs).pairs, [pairs[3], pairs[2], pairs[1]])

    def test_the_last_ones_go_as_long_as_it_is_too_much(self):
        light = [("a", ""), ("b", ""), ("c", ""), ("d", "")]
        heavy = [pair_of(25, "x"), pair_of(25, "y"), pair_of(25, "z")]
        # 20 and 75 is 95; with 21 more it is 116, so the four light ones go, and 96 may stay.
        shelf = shelf_of(*light, *heavy)
        self.assertEqual(len(shelf.pairs), 7)
        shelf.put(pair_of(21, "w"))
        self.assertEqual(shelf.pairs, [pair_of(21, "w"), heavy[2], heavy[1], heavy[0]])

    def test_only_as_many_go_as_must(self):
        shelf = shelf_of(("a", ""), ("b", ""), pair_of(25, "x"), pair_of(25, "y"), pair_of(25, "z"))
        shelf.put(pair_of(16, "w"))
        self.assertEqual(shelf.pairs, [pair_of(16, "w"), pair_of(25, "z"), pair_of(25, "y"), pair_of(25, "x"), ("b", "")])

    def test_a_pair_that_is_too_heavy_by_itself_does_not_stay(self):
        shelf = shelf_of(("a", ""), ("b", "v" * 92))
        self.assertEqual(shelf.pairs, [])
        self.assertEqual(shelf_of(("b", "v" * 91)).pairs, [("b", "v" * 91)])


if __name__ == "__main__":
    unittest.main()
