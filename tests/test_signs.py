"""Texts: point 3, and point 6 as far as it speaks of a text."""

import random
import unittest

from oneline.errors import BadHead, LineError, NoDeed
from oneline.signs import text_at, text_numbers

# Written out from the document on its own, so that the program's table is held against it.
ALL_SIGNS = [chr(code) for code in range(ord(" "), ord("~") + 1) if chr(code) != "%"]


def drawn_texts():
    """Texts of each length from 0 to 20, drawn the same way in each run."""
    chance = random.Random(3)
    return ["".join(chance.choices(ALL_SIGNS, k=size)) for size in range(21) for _ in range(20)]


class TextNumbersTest(unittest.TestCase):

    def test_there_are_94_signs(self):
        self.assertEqual(len(ALL_SIGNS), 94)

    def test_each_sign_is_told_by_its_place(self):
        for place, sign in enumerate(ALL_SIGNS):
            with self.subTest(sign=sign):
                self.assertEqual(text_numbers(sign), [1, place])

    def test_signs_that_the_document_names(self):
        self.assertEqual(text_numbers(" "), [1, 0])
        self.assertEqual(text_numbers("$&"), [2, 4, 5])
        self.assertEqual(text_numbers("~"), [1, 93])

    def test_the_empty_text(self):
        self.assertEqual(text_numbers(""), [0])

    def test_signs_are_told_in_order(self):
        self.assertEqual(text_numbers("a b~A!"), [6, 64, 0, 65, 93, 32, 1])

    def test_a_text_of_twenty_signs(self):
        self.assertEqual(text_numbers("~" * 20), [20] + [93] * 20)

    def test_a_longer_text_is_no_error_here(self):
        self.assertEqual(text_numbers(" " * 21), [21] + [0] * 21)

    def test_what_is_given_back_may_be_changed(self):
        given = text_numbers("abc")
        given.clear()
        self.assertEqual(text_numbers("abc"), [3, 64, 65, 66])
        self.assertEqual(text_at([3, 64, 65, 66], 0), ("abc", 4))


class TextAtTest(unittest.TestCase):

    def test_each_number_is_read_as_its_sign(self):
        for number, sign in enumerate(ALL_SIGNS):
            with self.subTest(number=number):
                self.assertEqual(text_at([1, number], 0), (sign, 2))

    def test_the_empty_text(self):
        self.assertEqual(text_at([0], 0), ("", 1))
        self.assertEqual(text_at([5, 0, 94], 1), ("", 2))

    def test_a_text_of_twenty_signs(self):
        self.assertEqual(text_at([20] + [93] * 20, 0), ("~" * 20, 21))

    def test_it_gives_a_tuple(self):
        self.assertIs(type(text_at([1, 0], 0)), tuple)

    def test_texts_of_each_length_are_told_and_read(self):
        for text in drawn_texts():
            told = text_numbers(text)
            self.assertEqual(told, [len(text)] + [ALL_SIGNS.index(sign) for sign in text])
            self.assertEqual(text_at(told, 0), (text, len(text) + 1))

    def test_texts_are_read_with_numbers_ahead_and_behind(self):
        chance = random.Random(6)
        for text in drawn_texts():
            ahead = chance.choices(range(256), k=chance.randrange(5))
            behind = chance.choices(range(256), k=chance.randrange(5))
            numbers = ahead + text_numbers(text) + behind
            place_behind = len(ahead) + len(text) + 1
            self.assertEqual(text_at(numbers, len(ahead)), (text, place_behind))

    def test_two_texts_one_behind_another(self):
        numbers = text_numbers("to") + text_numbers("me")
        self.assertEqual(text_at(numbers, 0), ("to", 3))
        self.assertEqual(text_at(numbers, 3), ("me", 6))

    def test_numbers_that_are_no_text_may_stand_around_one(self):
        self.assertEqual(text_at([255, 1, 64, 255], 1), ("a", 3))

    def test_the_list_that_is_handed_in_stays(self):
        for numbers in ([9, 2, 4, 5, 9], [9, 2, 4, 94], [9, 21]):
            kept = list(numbers)
            try:
                text_at(numbers, 1)
            except BadHead:
                pass
            self.assertEqual(numbers, kept)

    def test_changing_the_list_behind_it_changes_nothing(self):
        numbers = [2, 64, 65]
        told = text_at(numbers, 0)
        numbers[1] = 0
        self.assertEqual(told, ("ab", 3))


class NoTextTest(unittest.TestCase):

    def assert_no_text(self, numbers, at):
        with self.subTest(numbers=numbers, at=at):
            with self.assertRaises(BadHead) as caught:
                text_at(numbers, at)
            self.assertIsInstance(caught.exception, LineError)
            self.assertIsInstance(caught.exception, ValueError)
            self.assertNotIsInstance(caught.exception, NoDeed)

    def test_a_text_longer_than_twenty(self):
        for size in range(21, 256):
            self.assert_no_text([size] + [0] * size, 0)
        self.assert_no_text([0, 21] + [0] * 40, 1)

    def test_the_list_ends_within_the_text(self):
        for size in range(1, 21):
            for there in range(size):
                self.assert_no_text([size] + [0] * there, 0)
        self.assert_no_text([7, 7, 3, 1, 2], 2)

    def test_the_list_ends_ahead_of_the_length(self):
        self.assert_no_text([], 0)
        self.assert_no_text([], 1)
        self.assert_no_text([1, 0], 2)
        self.assert_no_text([1, 0], 9)

    def test_a_place_below_the_first(self):
        self.assert_no_text([0], -1)
        self.assert_no_text([1, 0, 0], -3)

    def test_a_number_that_is_no_signs(self):
        for number in range(94, 256):
            self.assert_no_text([1, number], 0)
        for number in (94, 95):
            self.assert_no_text([3, number, 0, 0], 0)
            self.assert_no_text([3, 0, number, 0], 0)
            self.assert_no_text([3, 0, 0, number], 0)
            self.assert_no_text([20] + [93] * 19 + [number], 0)

    def test_numbers_below_0_tell_no_text(self):
        self.assert_no_text([-1, 0, 0], 0)
        self.assert_no_text([1, -1], 0)


if __name__ == "__main__":
    unittest.main()
