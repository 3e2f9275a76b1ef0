"""Point 1: what is handed in stays as it was, what is kept is a copy, what is given back may be changed."""

import unittest

from oneline.ends import End

from joined import CREDIT, EndTest, answered, begun, body_frame, both_ends, carried, frame, head_frame, picture


def wiped(happened):
    """Changes events as far as they may be changed: their list, and the lists in them."""
    for event in happened:
        for part in event:
            if isinstance(part, list):
                part[:] = ["changed"]
    happened[:] = ["changed"]


class HandedInTest(EndTest):

    def test_a_head_that_is_begun(self):
        one, other = both_ends()
        head = [("a", "1"), ("a", "1"), ("a", "2")]
        one.begin(head, False)
        self.assertEqual(head, [("a", "1"), ("a", "1"), ("a", "2")])
        before = picture(one)
        head.append(("b", "3"))
        head[0] = ("c", "4")
        self.assertEqual(picture(one), before)
        self.assertEqual(carried(one, other), [("begun", 1, [("a", "1"), ("a", "1"), ("a", "2")])])

    def test_a_head_that_is_answered(self):
        one, other = begun()
        head = [("a", "1")]
        other.answer(1, head, False)
        self.assertEqual(head, [("a", "1")])
        before = picture(other)
        head.clear()
        self.assertEqual(picture(other), before)
        self.assertEqual(carried(other, one), [("answer", 1, [("a", "1")])])

    def test_a_head_that_is_refused(self):
        head = [("a", "1")] * 7
        self.assertRefused(End(0), "head", "begin", head, False)
        self.assertEqual(head, [("a", "1")] * 7)

    def test_numbers_that_are_said(self):
        one, other = answered()
        numbers = [1, 2, 3]
        one.say(1, numbers, False)
        self.assertEqual(numbers, [1, 2, 3])
        numbers[0] = 9
        numbers.append(4)
        self.assertEqual(one.waiting(1), 3)
        self.assertEqual(carried(one, other), [("body", 1, [1, 2, 3])])
        self.assertEqual(numbers, [9, 2, 3, 4])

    def test_numbers_that_are_said_twice(self):
        one, other = answered()
        numbers = [1, 2]
        one.say(1, numbers, False)
        one.say(1, numbers, True)
        self.assertEqual(numbers, [1, 2])
        self.assertEqual(carried(one, other), [("body", 1, [1, 2, 1, 2]), ("ended", 1)])

    def test_numbers_that_are_heard(self):
        one, _ = answered()
        numbers = body_frame(1, 3) + [2, 2]
        one.hear(numbers)
        self.assertEqual(numbers, body_frame(1, 3) + [2, 2])
        numbers.clear()
        self.assertEqual(one.hear([0, 1, 5, 6]), [("body", 1, [5, 6])])


class GivenBackTest(EndTest):

    def test_events(self):
        one, other = both_ends()
        one.begin([("a", "1")], False)
        wiped(carried(one, other))
        other.answer(1, [("a", "1")], False)
        wiped(carried(other, one))
        self.assertEqual((one.told.pairs, other.heard.pairs), ([("a", "1")], [("a", "1")]))
        self.assertEqual((other.told.pairs, one.heard.pairs), ([("a", "1")], [("a", "1")]))
        one.say(1, [1, 2, 3], False)
        wiped(carried(one, other))
        one.begin([("a", "1")], True)
        self.assertEqual(carried(one, other), [("begun", 3, [("a", "1")]), ("ended", 3)])

    def test_an_event_of_a_broken_end(self):
        end = End(0)
        wiped(end.hear(frame(7, 0, 0)))
        self.assertEqual(end.broken, "kind")
        wiped(end.hear([1]))
        self.assertEqual(end.hear([1]), [])

    def test_frames(self):
        one, _ = answered()
        one.say(1, list(range(15)), False)
        one.grant(0, 7)
        for many, rest in ((CREDIT, [10, 2, 0, 1, *range(10)]), (2, [5, 2, 0, 1, *range(10, 15)])):
            numbers = one.next_frame()
            self.assertEqual(numbers[1], many)
            numbers[:] = [0] * 20
            before = picture(one)
            self.assertEqual(before[5][0], rest)
        one.next_frame()
        one.next_frame().append(1)
        self.assertEqual(one.next_frame(), [])

    def test_a_frame_that_both_ends_hold(self):
        one, other = both_ends()
        one.begin([("a", "1")], False)
        numbers = one.next_frame()
        happened = other.hear(numbers)
        numbers.clear()
        self.assertEqual(happened, [("begun", 1, [("a", "1")])])

    def test_kinds_of_events(self):
        end = End(1)
        happened = end.hear(head_frame(1, [("a", "1")]) + body_frame(1, 2, 1) + frame(7, 0, 0))
        self.assertIsInstance(happened, list)
        for event in happened:
            self.assertIsInstance(event, tuple)
        self.assertIsInstance(happened[0][2], list)
        self.assertIsInstance(happened[0][2][0], tuple)
        self.assertIsInstance(happened[1][2], list)


if __name__ == "__main__":
    unittest.main()
