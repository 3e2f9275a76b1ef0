"""Points 7 and 15: which deeds are refused, and by which word; what is refused changes nothing."""

import unittest

from oneline.ends import End
from oneline.errors import LineError, NoDeed
from oneline.shelves import Shelf

from joined import AWAY, EndTest, answered, begun, both_ends, broken_end, carried, frame, picture, settled

PAIR = ("name", "value")
NO_HEADS = [
    [PAIR] * 7,
    [("", "value")],
    [("n" * 9, "value")],
    [("name", "v" * 21)],
    [("na%e", "value")],
    [("name", "%")],
    [("na\te", "value")],
    [("name", "\t")],
    [("name", "\n")],
    [("name", "\x7f")],
    [("n\u00e4me", "value")],
    [PAIR, ("", "")],
    [("name",)],
    [("name", "value", "more")],
]
HEADS = [
    [],
    [PAIR] * 6,
    [("n", "")],
    [("n" * 8, "v" * 20)],
    [(" ", "~")],
]


def left_there():
    """Side 0 with talk 1 begun, which the other end had not heard when it left; and the other end."""
    one, other = both_ends()
    one.begin([], False)
    other.leave()
    settled(one, other)
    return one, other


class ObjectTest(EndTest):

    def test_fields_at_first(self):
        for side in (0, 1):
            end = End(side)
            self.assertIsInstance(end.told, Shelf)
            self.assertIsInstance(end.heard, Shelf)
            self.assertEqual((end.told.pairs, end.heard.pairs, end.broken), ([], [], ""))
            self.assertEqual(end.left(0), 60)
            self.assertEqual(end.next_frame(), [])

    def test_deeds_give_back_nothing_but_begin(self):
        one, other = begun()
        self.assertIsNone(other.answer(1, [], False))
        self.assertIsNone(one.say(1, [1], False))
        self.assertIsNone(one.grant(1, 1))
        self.assertIsNone(one.grant(0, 1))
        self.assertIsNone(one.ask_rank(1, 1))
        self.assertIsNone(one.reset(1, 1))
        self.assertIsNone(one.leave())

    def test_a_refusal_is_an_error_of_the_line(self):
        with self.assertRaises(LineError):
            End(0).say(1, [], False)
        with self.assertRaises(ValueError):
            End(0).say(1, [], False)


class BeginTest(EndTest):

    def test_numbers_in_turn(self):
        for side, numbers in ((0, list(range(1, 250, 2))), (1, list(range(2, 251, 2)))):
            end = End(side)
            self.assertEqual([end.begin([], False) for _ in numbers], numbers)
            self.assertRefused(end, "many", "begin", [], False)
            self.assertRefused(end, "many", "begin", [PAIR] * 7, False)

    def test_all_talks_are_heard(self):
        one, other = both_ends()
        for end in (one, other):
            for _ in range(125):
                end.begin([], True)
        self.assertEqual(len(carried(one, other)), 250)
        self.assertEqual(len(carried(other, one)), 250)
        self.assertEqual((one.broken, other.broken), ("", ""))

    def test_the_other_ends_talks_are_not_counted(self):
        one, other = begun()
        self.assertEqual(other.begin([], False), 2)
        self.assertEqual(one.begin([], False), 3)

    def test_a_refused_head_takes_no_number(self):
        end = End(0)
        for head in NO_HEADS:
            with self.subTest(head=head):
                self.assertRefused(end, "head", "begin", head, False)
        self.assertEqual(end.begin([], False), 1)

    def test_a_refused_head_does_not_change_the_shelf(self):
        end = End(0)
        end.begin([("a", "1")], False)
        self.assertRefused(end, "head", "begin", [("b", "2"), ("c", "%")], False)
        self.assertEqual(end.told.pairs, [("a", "1")])

    def test_heads_at_the_edges(self):
        for head in HEADS:
            one, other = both_ends()
            one.begin(head, False)
            self.assertEqual(carried(one, other), [("begun", 1, head)])
            self.assertInStep(one, other)

    def test_the_other_end_has_left(self):
        one, other = both_ends()
        other.leave()
        one.begin([], False)
        carried(other, one)
        self.assertRefused(one, "away", "begin", [], False)
        self.assertRefused(one, "away", "begin", [PAIR] * 7, False)
        self.assertEqual(other.begin([], False), 2)

    def test_away_ahead_of_many(self):
        end = End(0)
        for _ in range(125):
            end.begin([], False)
        end.hear(frame(AWAY, 0, 0, 249))
        self.assertRefused(end, "away", "begin", [], False)

    def test_broken_ahead_of_all(self):
        end = End(0)
        for _ in range(125):
            end.begin([], False)
        end.hear(frame(AWAY, 0, 0, 249) + frame(9, 0, 0))
        self.assertRefused(end, "broken", "begin", [PAIR] * 7, False)


class AnswerTest(EndTest):

    def test_no_such_talk(self):
        _, other = begun()
        for number in (-1, 0, 2, 3, 5, 251, 1000):
            with self.subTest(number=number):
                self.assertRefused(other, "talk", "answer", number, [], False)
                self.assertRefused(other, "talk", "answer", number, [PAIR] * 7, False)

    def test_a_talk_that_was_skipped_has_not_begun(self):
        end = End(1)
        end.hear(frame(1, 0, 5))
        self.assertRefused(end, "talk", "answer", 3, [], False)
        end.answer(5, [], False)

    def test_shut(self):
        one, other = begun()
        other.reset(1, 0)
        self.assertRefused(other, "shut", "answer", 1, [PAIR] * 7, False)
        carried(other, one)
        self.assertRefused(one, "shut", "answer", 1, [PAIR] * 7, False)

    def test_passed_over(self):
        one, other = left_there()
        self.assertRefused(other, "shut", "answer", 1, [], False)
        self.assertRefused(one, "shut", "answer", 1, [], False)

    def test_twice(self):
        one, other = begun()
        self.assertRefused(one, "twice", "answer", 1, [], False)
        self.assertRefused(one, "twice", "answer", 1, [PAIR] * 7, False)
        other.answer(1, [], False)
        self.assertRefused(other, "twice", "answer", 1, [], False)

    def test_head(self):
        _, other = begun([("a", "1")])
        for head in NO_HEADS:
            with self.subTest(head=head):
                self.assertRefused(other, "head", "answer", 1, head, False)
        other.answer(1, [], False)

    def test_heads_at_the_edges(self):
        for head in HEADS:
            one, other = begun([PAIR, ("n", "2")])
            other.answer(1, head, False)
            self.assertEqual(carried(other, one), [("answer", 1, head)])
            self.assertInStep(one, other)

    def test_behind_the_other_ends_last(self):
        one, other = begun(last=True)
        other.answer(1, [], True)
        self.assertEqual(carried(other, one), [("answer", 1, []), ("ended", 1)])

    def test_broken(self):
        self.assertRefused(broken_end(), "broken", "answer", 1, [PAIR] * 7, False)


class SayTest(EndTest):

    def test_no_such_talk(self):
        one, other = begun()
        for end in (one, other):
            for number in (-1, 0, 2, 3):
                self.assertRefused(end, "talk", "say", number, [1], False)

    def test_shut(self):
        one, other = answered()
        one.reset(1, 0)
        self.assertRefused(one, "shut", "say", 1, [1], False)
        carried(one, other)
        self.assertRefused(other, "shut", "say", 1, [1], False)

    def test_shut_ahead_of_early_and_ended(self):
        one, other = begun(last=True)
        other.reset(1, 0)
        self.assertRefused(other, "shut", "say", 1, [1], False)
        carried(other, one)
        self.assertRefused(one, "shut", "say", 1, [1], False)

    def test_shut_by_leaving(self):
        one, other = left_there()
        self.assertRefused(one, "shut", "say", 1, [1], False)
        self.assertRefused(other, "shut", "say", 1, [1], False)

    def test_early(self):
        _, other = begun()
        self.assertRefused(other, "early", "say", 1, [1], False)
        self.assertRefused(other, "early", "say", 1, [], True)
        other.answer(1, [], False)
        other.say(1, [1], False)
        self.assertEqual(other.waiting(1), 1)

    def test_ended_with_the_head(self):
        one, other = begun(last=True)
        self.assertRefused(one, "ended", "say", 1, [1], False)
        other.answer(1, [], True)
        self.assertRefused(other, "ended", "say", 1, [], True)

    def test_ended_with_numbers(self):
        one, _ = answered()
        one.say(1, [1], True)
        self.assertRefused(one, "ended", "say", 1, [2], False)
        self.assertRefused(one, "ended", "say", 1, [], False)
        one.next_frame()
        self.assertRefused(one, "ended", "say", 1, [], True)

    def test_ended_with_none(self):
        one, _ = answered()
        one.say(1, [], True)
        self.assertRefused(one, "ended", "say", 1, [], True)

    def test_behind_the_other_ends_last(self):
        one, other = answered(answer_last=True)
        one.say(1, [1], False)
        self.assertEqual(carried(one, other), [("body", 1, [1])])

    def test_broken(self):
        self.assertRefused(broken_end(), "broken", "say", 1, [1], False)


class GrantTest(EndTest):

    def test_no_such_talk(self):
        one, other = begun()
        for end in (one, other):
            for number in (-1, 2, 3):
                self.assertRefused(end, "talk", "grant", number, 1)
                self.assertRefused(end, "talk", "grant", number, 0)

    def test_shut(self):
        one, other = begun(last=True)
        one.reset(1, 0)
        carried(one, other)
        for end in (one, other):
            self.assertRefused(end, "shut", "grant", 1, 1)
            self.assertRefused(end, "shut", "grant", 1, 0)

    def test_shut_by_leaving(self):
        for end in left_there():
            self.assertRefused(end, "shut", "grant", 1, 1)

    def test_ended(self):
        one, other = begun(last=True)
        self.assertRefused(other, "ended", "grant", 1, 1)
        self.assertRefused(other, "ended", "grant", 1, 0)
        one.grant(1, 1)

    def test_ended_by_a_body(self):
        one, other = answered()
        one.say(1, [1], True)
        other.grant(1, 1)
        carried(one, other)
        self.assertRefused(other, "ended", "grant", 1, 1)

    def test_many_for_a_talk(self):
        one, _ = begun()
        for many in (0, -1, 9981, 10000, 10001):
            with self.subTest(many=many):
                self.assertRefused(one, "many", "grant", 1, many)
        one.grant(1, 9980)
        self.assertRefused(one, "many", "grant", 1, 1)

    def test_many_for_the_line(self):
        end = End(0)
        for many in (0, -1, 9941, 10000, 10001):
            with self.subTest(many=many):
                self.assertRefused(end, "many", "grant", 0, many)
        end.grant(0, 9940)
        self.assertRefused(end, "many", "grant", 0, 1)

    def test_what_was_heard_may_be_given_again(self):
        one, other = answered()
        other.grant(1, 9980)
        other.grant(0, 9940)
        one.say(1, [5] * 13, False)
        carried(one, other)
        self.assertRefused(other, "many", "grant", 1, 14)
        other.grant(1, 13)
        self.assertRefused(other, "many", "grant", 0, 14)
        other.grant(0, 13)
        carried(other, one)
        self.assertEqual((one.left(1), one.left(0)), (10000, 10000))

    def test_the_lines_credit_is_another_than_a_talks(self):
        one, _ = begun()
        one.grant(1, 9980)
        one.grant(0, 9940)

    def test_broken(self):
        self.assertRefused(broken_end(), "broken", "grant", 0, 0)
        self.assertRefused(broken_end(), "broken", "grant", 1, 1)


class ResetTest(EndTest):

    def test_no_such_talk(self):
        one, other = begun()
        for end in (one, other):
            for number in (-1, 0, 2, 3):
                self.assertRefused(end, "talk", "reset", number, 0)

    def test_shut(self):
        one, other = answered(last=True, answer_last=False)
        one.reset(1, 0)
        self.assertRefused(one, "shut", "reset", 1, 0)
        carried(one, other)
        self.assertRefused(other, "shut", "reset", 1, 0)

    def test_shut_by_leaving(self):
        for end in left_there():
            self.assertRefused(end, "shut", "reset", 1, 0)

    def test_ended(self):
        for end in answered(last=True, answer_last=True):
            self.assertRefused(end, "ended", "reset", 1, 0)

    def test_ended_where_the_last_ones_wait_still(self):
        one, _ = answered(answer_last=True)
        one.say(1, [1] * 30, False)
        one.say(1, [], True)
        self.assertRefused(one, "ended", "reset", 1, 0)
        self.assertEqual(one.waiting(1), 30)

    def test_one_end_alone_is_not_enough(self):
        one, other = answered(last=True)
        one.reset(1, 3)
        self.assertEqual(carried(one, other), [("reset", 1, 3)])
        one, other = answered(last=True)
        other.reset(1, 4)
        self.assertEqual(carried(other, one), [("reset", 1, 4)])

    def test_broken(self):
        self.assertRefused(broken_end(), "broken", "reset", 1, 0)


class AskRankTest(EndTest):

    def test_no_such_talk(self):
        one, other = begun()
        for end in (one, other):
            for number in (-1, 0, 2, 3):
                self.assertRefused(end, "talk", "ask_rank", number, 8)

    def test_shut(self):
        one, other = begun(last=True)
        one.reset(1, 0)
        carried(one, other)
        for end in (one, other):
            self.assertRefused(end, "shut", "ask_rank", 1, 8)

    def test_ended(self):
        one, other = begun(last=True)
        self.assertRefused(other, "ended", "ask_rank", 1, 0)
        self.assertRefused(other, "ended", "ask_rank", 1, 8)
        one.ask_rank(1, 0)

    def test_many(self):
        one, other = begun()
        for rank in (-1, 8, 9, 255):
            with self.subTest(rank=rank):
                self.assertRefused(one, "many", "ask_rank", 1, rank)
        for rank in range(8):
            one.ask_rank(1, rank)
        self.assertEqual(carried(one, other), [("rank", 1, rank) for rank in range(8)])

    def test_broken(self):
        self.assertRefused(broken_end(), "broken", "ask_rank", 1, 8)


class LeaveTest(EndTest):

    def test_twice(self):
        end = End(0)
        end.leave()
        self.assertRefused(end, "away", "leave")
        end.next_frame()
        self.assertRefused(end, "away", "leave")

    def test_the_other_end_may_have_left(self):
        one, other = both_ends()
        other.leave()
        carried(other, one)
        one.leave()
        self.assertEqual(carried(one, other), [("away", 0)])

    def test_broken(self):
        end = End(0)
        end.leave()
        end.hear(frame(9, 0, 0))
        self.assertRefused(end, "broken", "leave")


class AskedTest(EndTest):

    def test_no_such_talk(self):
        one, other = begun()
        for end in (one, other):
            for number in (-1, 2, 3, 251):
                self.assertRefused(end, "talk", "left", number)
                self.assertRefused(end, "talk", "waiting", number)
            self.assertRefused(end, "talk", "waiting", 0)

    def test_at_first(self):
        one, other = begun()
        for end in (one, other):
            self.assertEqual((end.left(0), end.left(1), end.waiting(1)), (60, 20, 0))

    def test_numbers_that_wait_are_not_said_yet(self):
        one, _ = begun()
        one.say(1, [1] * 25, False)
        self.assertEqual((one.left(0), one.left(1), one.waiting(1)), (60, 20, 25))
        one.next_frame()
        self.assertEqual((one.left(0), one.left(1), one.waiting(1)), (50, 10, 15))

    def test_heads_that_wait_are_no_numbers(self):
        one, _ = both_ends()
        one.begin([PAIR], False)
        self.assertEqual(one.waiting(1), 0)

    def test_of_a_talk_that_is_shut(self):
        one, other = answered()
        one.say(1, [1] * 25, False)
        carried(one, other)
        one.reset(1, 0)
        self.assertEqual((one.left(1), one.waiting(1)), (0, 0))
        carried(one, other)
        self.assertEqual((other.left(1), other.waiting(1)), (20, 0))

    def test_of_a_talk_that_is_passed_over(self):
        for end in left_there():
            self.assertEqual((end.left(1), end.waiting(1)), (20, 0))

    def test_of_an_end_that_is_broken(self):
        one, _ = answered()
        one.say(1, [1] * 25, False)
        one.next_frame()
        one.hear(frame(9, 0, 0))
        self.assertEqual((one.left(0), one.left(1), one.waiting(1)), (50, 10, 15))
        self.assertRefused(one, "talk", "left", 3)
        self.assertRefused(one, "talk", "waiting", 0)


class BrokenTest(EndTest):

    def test_nothing_goes_out_and_nothing_is_heard(self):
        one, other = answered()
        one.say(1, [1], False)
        one.grant(0, 1)
        self.assertEqual(one.hear(frame(7, 0, 0)), [("broken", "kind")])
        self.assertEqual(one.next_frame(), [])
        other.say(1, [1], False)
        before = picture(one)
        self.assertEqual(carried(other, one), [])
        self.assertEqual(one.hear(frame(7, 0, 0)), [])
        self.assertEqual(picture(one), before)

    def test_each_deed_is_refused(self):
        end = answered()[0]
        end.hear(frame(7, 0, 0))
        deeds = [("begin", [], False), ("answer", 1, [], False), ("say", 1, [1], False), ("grant", 0, 1),
                 ("grant", 1, 1), ("reset", 1, 0), ("ask_rank", 1, 1), ("leave",)]
        for deed in deeds:
            with self.subTest(deed=deed):
                self.assertRefused(end, "broken", *deed)


if __name__ == "__main__":
    unittest.main()
