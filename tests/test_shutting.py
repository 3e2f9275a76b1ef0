"""Points 8 and 9: resets and leaving."""

import unittest

from oneline.ends import End

from joined import (AWAY, BODY, CREDIT, HEAD, RANK, RESET, EndTest, answered, begun, body_frame, both_ends, carried,
                    frame, frames_of, head_frame, settled)


class ResetTest(EndTest):

    def test_both_ends_drop_what_waits(self):
        one, other = answered()
        one.say(1, [1] * 30, True)
        other.say(1, [2] * 30, True)
        one.reset(1, 9)
        self.assertEqual((one.waiting(1), other.waiting(1)), (0, 30))
        self.assertEqual(carried(one, other), [("reset", 1, 9)])
        self.assertEqual(other.waiting(1), 0)
        self.assertEqual((one.next_frame(), other.next_frame()), ([], []))
        self.assertEqual((one.left(1), other.left(1), one.left(0), other.left(0)), (20, 20, 60, 60))

    def test_by_the_end_that_did_not_begin_the_talk(self):
        one, other = begun()
        other.reset(1, 0)
        self.assertEqual(carried(other, one), [("reset", 1, 0)])
        self.assertRefused(one, "shut", "say", 1, [1], False)

    def test_an_ending_that_waits_is_dropped(self):
        one, other = answered()
        one.say(1, [], True)
        other.reset(1, 0)
        carried(other, one)
        self.assertEqual(one.next_frame(), [])

    def test_what_goes_first_goes_still(self):
        one, other = both_ends()
        one.begin([("a", "1")], False)
        one.grant(1, 5)
        one.ask_rank(1, 2)
        one.say(1, [1], False)
        one.reset(1, 6)
        self.assertEqual([numbers[1] for numbers in frames_of(one)], [HEAD, CREDIT, RANK, RESET])
        self.assertEqual(carried(one, other), [("begun", 1, [("a", "1")]), ("credit", 1, 5), ("rank", 1, 2),
                                               ("reset", 1, 6)])
        self.assertInStep(one, other)

    def test_what_goes_first_goes_still_where_the_reset_is_heard(self):
        one, other = begun()
        other.answer(1, [("b", "2")], False)
        other.grant(1, 5)
        other.ask_rank(1, 2)
        other.say(1, [1], False)
        one.reset(1, 6)
        carried(one, other)
        self.assertEqual([numbers[1] for numbers in frames_of(other)], [HEAD, CREDIT, RANK])
        self.assertEqual(carried(other, one), [])
        self.assertEqual(one.left(1), 20)
        self.assertEqual(one.heard.pairs, [("b", "2")])
        self.assertInStep(one, other)

    def test_numbers_on_their_way(self):
        one, other = answered()
        other.say(1, [2] * 10, False)
        body = other.next_frame()
        one.reset(1, 0)
        self.assertEqual(one.hear(body), [])
        # The ten have used up the line's credit, so just as many more may be given.
        self.assertRefused(one, "many", "grant", 0, 9951)
        one.grant(0, 9950)
        carried(one, other)
        self.assertEqual(other.left(0), 10000)

    def test_a_head_on_its_way_is_heard_by_the_shelf(self):
        one, other = begun()
        other.answer(1, [("b", "2")], True)
        head = other.next_frame()
        one.reset(1, 0)
        self.assertEqual(one.hear(head), [])
        self.assertInStep(one, other)
        other.begin([("b", "2")], False)
        self.assertEqual(carried(other, one), [("begun", 2, [("b", "2")])])

    def test_both_at_once(self):
        one, other = answered()
        for end in (one, other):
            end.say(1, [3], False)
            end.reset(1, 4)
        out, back = one.next_frame(), other.next_frame()
        self.assertEqual((one.hear(back), other.hear(out)), ([], []))
        self.assertEqual((one.broken, other.broken), ("", ""))
        self.assertEqual(settled(one, other), ([], []))

    def test_other_talks_go_on(self):
        one, other = answered()
        one.begin([], False)
        one.say(1, [1], False)
        one.say(3, [3], False)
        one.reset(1, 0)
        self.assertEqual(carried(one, other), [("begun", 3, []), ("reset", 1, 0), ("body", 3, [3])])

    def test_credit_and_rank_on_a_talk_that_was_reset_change_nothing(self):
        one, _ = answered()
        one.reset(1, 0)
        self.assertEqual(one.hear(frame(CREDIT, 0, 1, 0, 9) + frame(RANK, 0, 1, 0)), [])
        self.assertEqual(one.left(1), 20)

    def test_a_talk_that_ended_at_the_one_end_alone(self):
        one, other = answered(answer_last=False)
        one.say(1, [], True)
        carried(one, other)
        other.say(1, [1], True)
        body = other.next_frame()
        one.reset(1, 3)
        self.assertEqual(one.hear(body), [])
        # The other end has told and heard the last numbers, and hears of the reset still.
        self.assertRefused(other, "ended", "reset", 1, 0)
        self.assertEqual(carried(one, other), [("reset", 1, 3)])
        self.assertRefused(other, "shut", "reset", 1, 0)


class LeavingTest(EndTest):

    def test_it_tells_the_greatest_talk_that_was_heard(self):
        for side in (0, 1):
            for many in range(4):
                end, other = End(side), End(1 - side)
                talk = 0
                for _ in range(many):
                    talk = other.begin([], False)
                carried(other, end)
                end.begin([], False)
                end.leave()
                self.assertEqual(carried(end, other)[-1], ("away", talk))

    def test_it_tells_what_was_heard_when_it_was_asked_for(self):
        one, other = begun()
        other.leave()
        one.begin([], False)
        carried(one, other)
        self.assertEqual(other.next_frame(), frame(AWAY, 0, 0, 1))

    def test_talks_behind_it_are_passed_over(self):
        one, other = begun()
        other.leave()
        self.assertEqual(one.begin([("a", "1")], False), 3)
        one.say(3, [1] * 5, True)
        one.grant(3, 1)
        self.assertEqual(carried(one, other), [])
        self.assertRefused(other, "shut", "answer", 3, [], False)
        self.assertEqual((other.left(3), other.waiting(3)), (20, 0))
        self.assertInStep(one, other)
        self.assertEqual(carried(other, one), [("away", 1)])
        self.assertRefused(one, "shut", "say", 3, [1], False)

    def test_bodies_of_talks_behind_it_use_up_the_lines_credit(self):
        one, other = both_ends()
        other.leave()
        one.begin([], False)
        one.say(1, [1] * 10, False)
        self.assertEqual(carried(one, other), [])
        self.assertRefused(other, "many", "grant", 0, 9951)
        other.grant(0, 9950)
        carried(other, one)
        self.assertEqual(one.left(0), 10000)

    def test_greater_talks_are_shut_and_drop_what_waits(self):
        one, other = answered()
        one.begin([("a", "1")], False)
        one.begin([("b", "2")], False)
        for talk in (1, 3, 5):
            one.say(talk, [talk] * 30, False)
        other.leave()
        self.assertEqual(carried(other, one), [("away", 1)])
        self.assertEqual([one.waiting(talk) for talk in (1, 3, 5)], [30, 0, 0])
        for talk in (3, 5):
            self.assertRefused(one, "shut", "say", talk, [1], False)
        # The heads go still, so the shelves are in step.
        self.assertEqual([numbers[1:4] for numbers in frames_of(one)],
                         [[HEAD, 0, 3], [HEAD, 0, 5], [BODY, 0, 1], [BODY, 0, 1]])
        self.assertEqual(carried(one, other), [("body", 1, [1] * 10)] * 2)
        self.assertInStep(one, other)

    def test_an_ending_that_waits_is_dropped(self):
        one, other = both_ends()
        one.begin([], False)
        one.next_frame()
        one.say(1, [], True)
        one.hear(frame(AWAY, 0, 0, 0))
        self.assertEqual(one.next_frame(), [])

    def test_talks_up_to_it_go_on(self):
        one, other = begun()
        other.leave()
        carried(other, one)
        other.answer(1, [("a", "1")], False)
        other.say(1, [1], True)
        one.say(1, [2], True)
        self.assertEqual(carried(other, one), [("answer", 1, [("a", "1")]), ("body", 1, [1]), ("ended", 1)])
        self.assertEqual(carried(one, other), [("body", 1, [2]), ("ended", 1)])

    def test_talks_of_the_end_that_left_go_on(self):
        one, other = both_ends()
        other.begin([], False)
        other.leave()
        self.assertEqual(other.begin([("a", "1")], False), 4)
        self.assertEqual(carried(other, one), [("begun", 2, []), ("away", 0), ("begun", 4, [("a", "1")])])
        for talk in (2, 4):
            one.answer(talk, [], True)
        self.assertEqual(carried(one, other), [("answer", 2, []), ("ended", 2), ("answer", 4, []), ("ended", 4)])

    def test_greater_talks_of_the_end_that_left_are_not_shut(self):
        one, other = begun()
        for _ in range(3):
            other.begin([], False)
        other.leave()
        carried(other, one)
        one.answer(6, [], False)
        self.assertEqual(carried(one, other), [("answer", 6, [])])

    def test_both_at_once(self):
        one, other = answered()
        one.begin([("a", "1")], False)
        other.begin([("b", "2")], False)
        for end in (one, other):
            end.leave()
            end.say(1, [1], False)
        # Each began a talk that the other one had not heard of when it left.
        self.assertEqual(settled(one, other), ([("away", 1), ("body", 1, [1])], [("away", 0), ("body", 1, [1])]))
        self.assertInStep(one, other)
        for end in (one, other):
            self.assertRefused(end, "away", "begin", [], False)
            self.assertRefused(end, "away", "leave")

    def test_a_talk_that_was_reset_is_among_those_heard(self):
        one, other = begun()
        other.reset(1, 0)
        other.leave()
        self.assertEqual(carried(other, one), [("reset", 1, 0), ("away", 1)])

    def test_a_talk_on_its_way_that_was_reset_by_the_end_that_began_it(self):
        one, other = both_ends()
        one.begin([("a", "1")], False)
        one.reset(1, 5)
        other.leave()
        self.assertEqual(carried(one, other), [])
        self.assertEqual(carried(other, one), [("away", 0)])
        self.assertInStep(one, other)

    def test_a_skipped_talk_is_not_told_of(self):
        end = End(1)
        end.hear(head_frame(5))
        end.leave()
        self.assertEqual(end.next_frame(), frame(AWAY, 0, 0, 5))
        self.assertEqual(end.hear(head_frame(7) + body_frame(7, 3)), [])
        self.assertEqual(end.broken, "")


if __name__ == "__main__":
    unittest.main()
