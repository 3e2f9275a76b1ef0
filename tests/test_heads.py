"""Points 3, 5 and 6: heads."""

import random
import unittest

from oneline.errors import BadHead
from oneline.heads import read_head, told_head
from oneline.shelves import Shelf
from oneline.signs import text_numbers

from joined import shelf_of


def texts(*parts):
    """The numbers of ways, places and texts, one behind another."""
    numbers = []
    for part in parts:
        numbers.extend(text_numbers(part) if isinstance(part, str) else [part])
    return numbers


class ToldTest(unittest.TestCase):

    def test_a_head_of_no_pairs(self):
        shelf = shelf_of(("a", "1"))
        self.assertEqual(told_head(shelf, []), [])
        self.assertEqual(shelf.pairs, [("a", "1")])

    def test_both_texts(self):
        shelf = Shelf()
        self.assertEqual(told_head(shelf, [("a!", " ~")]), [2, 2, 64, 1, 2, 0, 93])
        self.assertEqual(shelf.pairs, [("a!", " ~")])

    def test_an_empty_value(self):
        self.assertEqual(told_head(Shelf(), [("a", "")]), [2, 1, 64, 0])

    def test_whole(self):
        shelf = shelf_of(("a", "1"), ("b", "2"))
        self.assertEqual(told_head(shelf, [("b", "2")]), [0, 0])
        self.assertEqual(told_head(shelf, [("a", "1")]), [0, 1])
        self.assertEqual(shelf.pairs, [("b", "2"), ("a", "1")])

    def test_its_name(self):
        shelf = shelf_of(("a", "1"), ("b", "2"))
        self.assertEqual(told_head(shelf, [("a", "2")]), texts(1, 1, "2"))
        self.assertEqual(shelf.pairs, [("a", "2"), ("b", "2"), ("a", "1")])

    def test_the_first_place_of_a_pair(self):
        shelf = shelf_of(("a", "1"), ("b", "2"), ("a", "1"), ("c", "3"))
        self.assertEqual(told_head(shelf, [("a", "1")]), [0, 1])

    def test_the_first_place_of_a_name(self):
        shelf = shelf_of(("a", "1"), ("b", "2"), ("a", "2"), ("c", "3"))
        self.assertEqual(told_head(shelf, [("a", "3")]), texts(1, 1, "3"))

    def test_a_pair_is_told_whole_though_its_name_stands_ahead(self):
        shelf = shelf_of(("a", "1"), ("a", "2"))
        self.assertEqual(told_head(shelf, [("a", "1")]), [0, 1])
        self.assertEqual(shelf.pairs, [("a", "2"), ("a", "1")])

    def test_a_value_is_no_name(self):
        self.assertEqual(told_head(shelf_of(("a", "b")), [("b", "a")]), texts(2, "b", "a"))

    def test_each_pair_by_the_shelf_as_it_is_then(self):
        shelf = Shelf()
        head = [("a", "1"), ("b", "1"), ("a", "1"), ("a", "2"), ("b", "1"), ("a", "1")]
        self.assertEqual(told_head(shelf, head),
                         texts(2, "a", "1") + texts(2, "b", "1") + [0, 1] + texts(1, 1, "2") + [0, 1] + [0, 2])
        self.assertEqual(shelf.pairs, [("a", "2"), ("b", "1"), ("a", "1")])

    def test_a_pair_goes_while_its_head_is_told(self):
        old = ("old", "v" * 20)
        shelf = shelf_of(old, ("b", "w" * 20), ("c", "x" * 20))
        # 27, 25 and 25 weigh 77; the first pair of this head makes 102, so the old one is gone behind it.
        head = [("d", "y" * 20), old, ("b", "w" * 20)]
        self.assertEqual(told_head(shelf, head),
                         texts(2, "d", "y" * 20) + texts(2, "old", "v" * 20) + texts(2, "b", "w" * 20))
        self.assertEqual(shelf.pairs, [("b", "w" * 20), old, ("d", "y" * 20)])

    def test_what_is_handed_in_stays(self):
        head = [("a", "1"), ("a", "2")]
        shelf = Shelf()
        numbers = told_head(shelf, head)
        self.assertEqual(head, [("a", "1"), ("a", "2")])
        head.clear()
        numbers.clear()
        self.assertEqual(shelf.pairs, [("a", "2"), ("a", "1")])


class ReadTest(unittest.TestCase):

    def test_no_numbers_tell_no_pairs(self):
        shelf = shelf_of(("a", "1"))
        self.assertEqual(read_head(shelf, []), [])
        self.assertEqual(shelf.pairs, [("a", "1")])

    def test_both_texts(self):
        shelf = Shelf()
        head = read_head(shelf, texts(2, "a", "1"))
        self.assertEqual(head, [("a", "1")])
        self.assertIsInstance(head, list)
        self.assertIsInstance(head[0], tuple)
        self.assertEqual(shelf.pairs, [("a", "1")])

    def test_by_a_name(self):
        shelf = shelf_of(("a", "1"), ("b", "2"))
        self.assertEqual(read_head(shelf, texts(1, 1, "9")), [("a", "9")])
        self.assertEqual(shelf.pairs, [("a", "9"), ("b", "2"), ("a", "1")])

    def test_whole(self):
        shelf = shelf_of(("a", "1"), ("b", "2"))
        self.assertEqual(read_head(shelf, [0, 1, 0, 0, 0, 1]), [("a", "1"), ("b", "2"), ("a", "1")])
        self.assertEqual(shelf.pairs, [("b", "2"), ("a", "1")])

    def test_what_could_have_been_told_shorter_is_put_still(self):
        shelf = shelf_of(("a", "1"))
        self.assertEqual(read_head(shelf, texts(2, "a", "1")), [("a", "1")])
        self.assertEqual(shelf.pairs, [("a", "1"), ("a", "1")])
        self.assertEqual(read_head(shelf, texts(1, 1, "1")), [("a", "1")])
        self.assertEqual(shelf.pairs, [("a", "1")] * 3)

    def test_a_later_place_than_the_first(self):
        shelf = shelf_of(("a", "1"), ("b", ""), ("a", "1"))
        self.assertEqual(read_head(shelf, [0, 2] + texts(1, 2, "3")), [("a", "1"), ("a", "3")])
        self.assertEqual(shelf.pairs, [("a", "3"), ("a", "1"), ("b", ""), ("a", "1")])

    def test_the_place_of_a_name_is_read_by_the_shelf_as_it_is_then(self):
        shelf = shelf_of(("a", "1"))
        self.assertEqual(read_head(shelf, texts(2, "b", "2", 1, 1, "3", 0, 1)), [("b", "2"), ("a", "3"), ("b", "2")])

    def test_the_shelf_forgets_while_a_head_is_read(self):
        shelf = shelf_of(("old", "v" * 20), ("b", "w" * 20), ("c", "x" * 20))
        read_head(shelf, texts(2, "d", "y" * 20, 0, 2))
        self.assertEqual(shelf.pairs, [("d", "y" * 20), ("c", "x" * 20), ("b", "w" * 20)])
        with self.assertRaises(BadHead):
            read_head(shelf, [0, 3])

    def test_what_is_handed_in_stays(self):
        numbers = texts(2, "a", "1")
        shelf = Shelf()
        head = read_head(shelf, numbers)
        self.assertEqual(numbers, texts(2, "a", "1"))
        head.clear()
        self.assertEqual(shelf.pairs, [("a", "1")])


class NoHeadTest(unittest.TestCase):

    def assertNone(self, shelf, numbers):
        with self.assertRaises(BadHead):
            read_head(shelf, numbers)

    def test_the_end_at_every_place_within_a_pair(self):
        ways = [texts(2, "ab", "cd"), texts(2, "a", ""), texts(1, 0, "cd"), texts(1, 0, ""), [0, 0]]
        for numbers in ways:
            for size in range(1, len(numbers)):
                for ahead in ([], [0, 0], texts(2, "x", "y")):
                    with self.subTest(numbers=numbers, size=size, ahead=ahead):
                        shelf = shelf_of(("k", "v"))
                        self.assertNone(shelf, ahead + numbers[:size])
            self.assertEqual(len(read_head(shelf_of(("k", "v")), numbers)), 1)

    def test_ways_to_tell(self):
        for way in (3, 4, 93, 255, -1):
            with self.subTest(way=way):
                self.assertNone(shelf_of(("a", "1")), texts(way, "a", "1"))
                self.assertNone(shelf_of(("a", "1")), [0, 0, way, 0])

    def test_places(self):
        for way in (0, 1):
            for many in range(4):
                for place in (many, many + 1, 255, -1):
                    with self.subTest(way=way, many=many, place=place):
                        shelf = shelf_of(*[("a", "1"), ("b", "2"), ("c", "3")][:many])
                        self.assertNone(shelf, [way, place, 0] if way else [way, place])

    def test_the_last_place_is_one(self):
        shelf = shelf_of(("a", "1"), ("b", "2"), ("c", "3"))
        self.assertEqual(read_head(shelf, [0, 2]), [("a", "1")])
        self.assertEqual(read_head(shelf, [1, 2, 0]), [("a", "")])

    def test_a_place_is_looked_for_on_the_shelf_as_it_is_then(self):
        self.assertNone(Shelf(), [0, 0] + texts(2, "a", "1"))
        self.assertEqual(len(read_head(Shelf(), texts(2, "a", "1") + [0, 0])), 2)
        self.assertNone(Shelf(), texts(2, "a", "1") + [0, 1])

    def test_names(self):
        for size in (1, 8):
            self.assertEqual(read_head(Shelf(), texts(2, "n" * size, "v")), [("n" * size, "v")])
        for size in (0, 9, 20, 21):
            with self.subTest(size=size):
                self.assertNone(Shelf(), texts(2, "n" * size, "v"))

    def test_values(self):
        for size in (0, 1, 20):
            self.assertEqual(read_head(Shelf(), texts(2, "n", "v" * size)), [("n", "v" * size)])
            self.assertEqual(read_head(shelf_of(("n", "w")), texts(1, 0, "v" * size)), [("n", "v" * size)])
        for size in (21, 22, 100):
            with self.subTest(size=size):
                self.assertNone(Shelf(), texts(2, "n", "v" * size))
                self.assertNone(shelf_of(("n", "w")), texts(1, 0, "v" * size))

    def test_signs(self):
        self.assertEqual(read_head(Shelf(), [2, 1, 93, 2, 0, 93]), [("~", " ~")])
        for number in (94, 255, -1):
            with self.subTest(number=number):
                self.assertNone(Shelf(), [2, 1, number, 1, 0])
                self.assertNone(Shelf(), [2, 1, 0, 1, number])
                self.assertNone(shelf_of(("a", "1")), [1, 0, 2, 5, number])

    def test_six_pairs_and_seven(self):
        for pair in ([0, 0], texts(1, 0, ""), texts(2, "b", "2")):
            with self.subTest(pair=pair):
                self.assertEqual(len(read_head(shelf_of(("a", "1")), pair * 6)), 6)
                self.assertNone(shelf_of(("a", "1")), pair * 7)


class InStepTest(unittest.TestCase):

    def test_one_head_behind_another(self):
        told, heard = Shelf(), Shelf()
        drawn = random.Random(5)
        for _ in range(2000):
            head = [("n" * drawn.choice((1, 1, 2, 8)), drawn.choice("abc") * drawn.choice((0, 1, 20)))
                    for _ in range(drawn.randrange(7))]
            self.assertEqual(read_head(heard, told_head(told, head)), head)
            self.assertEqual(heard.pairs, told.pairs)

    def test_two_shelves_in_turn(self):
        told = [Shelf(), Shelf()]
        heard = [Shelf(), Shelf()]
        drawn = random.Random(6)
        for turn in range(1000):
            at = turn % 2
            other = list(told[1 - at].pairs)
            head = [(drawn.choice("abcdefgh"), drawn.choice("ab") * drawn.randrange(21)) for _ in range(4)]
            self.assertEqual(read_head(heard[at], told_head(told[at], head)), head)
            self.assertEqual(heard[at].pairs, told[at].pairs)
            self.assertEqual(told[1 - at].pairs, other)

    def test_the_longest_head(self):
        head = [(f"name000{number}", "v" * 20) for number in range(6)]
        numbers = told_head(Shelf(), head)
        self.assertEqual(len(numbers), 186)
        self.assertEqual(read_head(Shelf(), numbers), head)


if __name__ == "__main__":
    unittest.main()
