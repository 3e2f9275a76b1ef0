"""The refusals: the interface of oneline/errors.py."""

import unittest

from oneline.errors import BadHead, LineError, NoDeed


class ErrorsTest(unittest.TestCase):

    def test_line_error_is_a_value_error(self):
        self.assertTrue(issubclass(LineError, ValueError))

    def test_both_refusals_are_line_errors(self):
        self.assertTrue(issubclass(NoDeed, LineError))
        self.assertTrue(issubclass(BadHead, LineError))

    def test_neither_refusal_is_the_other(self):
        self.assertFalse(issubclass(NoDeed, BadHead))
        self.assertFalse(issubclass(BadHead, NoDeed))

    def test_a_refused_deed_tells_why(self):
        for why in ("broken", "talk", "shut", "away", "many", "head", "twice", "early", "ended"):
            with self.subTest(why=why):
                self.assertEqual(NoDeed(why).why, why)

    def test_why_is_there_where_it_is_caught(self):
        with self.assertRaises(LineError) as caught:
            raise NoDeed("many")
        self.assertEqual(caught.exception.why, "many")
        self.assertEqual(str(caught.exception), "many")

    def test_each_refused_deed_has_its_own_why(self):
        first, second = NoDeed("talk"), NoDeed("shut")
        self.assertEqual((first.why, second.why), ("talk", "shut"))


if __name__ == "__main__":
    unittest.main()
