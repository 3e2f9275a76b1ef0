"""Points 13 and 14: which frames are refused on the line, and by which word."""

import unittest

from oneline.ends import End

from joined import (AWAY, BODY, CREDIT, HEAD, RANK, RESET, EndTest, answered, begun, body_frame, both_ends, carried,
                    frame, head_frame)


def no_head(talk, flag=0):
    """A head's frame whose numbers tell none."""
    return frame(HEAD, flag, talk, 3)


def reset_there():
    """Side 0, whose talk 1 the other end has answered and reset."""
    one, other = answered()
    other.reset(1, 0)
    carried(other, one)
    return one


def reset_here():
    """Side 0, which has reset its talk 1, that the other end has answered."""
    one, _ = answered()
    one.reset(1, 0)
    one.next_frame()
    return one


class KindTest(EndTest):

    def test_kinds(self):
        for kind in (0, 7, 8, 200, 255, -1):
            with self.subTest(kind=kind):
                self.assertBreaks(End(1), frame(kind, 0, 1), "kind")

    def test_ahead_of_all_others(self):
        self.assertBreaks(End(1), [251, 7, 2, 0] + [0] * 251, "kind")
        self.assertBreaks(End(1), frame(0, 9, 9, 9), "kind")


class SizeTest(EndTest):

    def test_above_250(self):
        for kind in range(1, 7):
            for size in (251, 255):
                self.assertBreaks(answered()[0], [size, kind, 0, 1] + [0] * size, "size")

    def test_250_is_not_above(self):
        one, other = answered()
        other.grant(1, 300)
        other.grant(0, 300)
        carried(other, one)
        self.assertEqual(other.hear(body_frame(1, 250)), [("body", 1, [7] * 250)])
        self.assertBreaks(End(1), [250, HEAD, 0, 1] + [3] * 250, "head")
        self.assertBreaks(answered()[0], body_frame(1, 250), "credit")

    def test_other_sizes_than_are_told(self):
        for kind, size in ((CREDIT, 2), (RESET, 1), (RANK, 1), (AWAY, 1)):
            for other in (0, 1, 2, 3, 250):
                if other != size:
                    with self.subTest(kind=kind, size=other):
                        talk = 0 if kind == AWAY else 1
                        self.assertBreaks(answered()[0], frame(kind, 0, talk, *([0] * other)), "size")

    def test_ahead_of_flag_and_number(self):
        self.assertBreaks(End(1), frame(RESET, 1, 1), "size")
        self.assertBreaks(End(1), frame(CREDIT, 2, 9, 1), "size")
        self.assertBreaks(End(1), [251, HEAD, 2, 0] + [0] * 251, "size")
        self.assertBreaks(reset_there(), frame(RANK, 0, 1, 1, 1), "size")


class FlagTest(EndTest):

    def test_neither_0_nor_1(self):
        for flag in (2, 3, 255, -1):
            for kind, numbers in ((HEAD, []), (BODY, [1]), (CREDIT, [0, 1]), (RESET, [1]), (RANK, [1]), (AWAY, [1])):
                with self.subTest(kind=kind, flag=flag):
                    self.assertBreaks(answered()[0], frame(kind, flag, 0 if kind == AWAY else 1, *numbers), "flag")

    def test_1_where_it_is_told_to_be_0(self):
        for kind, numbers in ((CREDIT, [0, 1]), (RESET, [1]), (RANK, [1]), (AWAY, [1])):
            with self.subTest(kind=kind):
                self.assertBreaks(answered()[0], frame(kind, 1, 0 if kind == AWAY else 1, *numbers), "flag")

    def test_ahead_of_number(self):
        for numbers in (frame(HEAD, 2, 0), frame(BODY, 2, 9, 1), frame(AWAY, 1, 5, 9), frame(RESET, 1, 0, 1)):
            self.assertBreaks(End(1), numbers, "flag")
        self.assertBreaks(End(1), no_head(1, 2), "flag")


class NumberTest(EndTest):

    def test_leaving_on_another_talk(self):
        for talk in (1, 2, 3, 255):
            self.assertBreaks(answered()[0], frame(AWAY, 0, talk, 0), "number")

    def test_leaving_tells_a_talk_that_the_hearing_end_did_not_begin(self):
        for greatest in (3, 5, 255, 2, -1):
            with self.subTest(greatest=greatest):
                self.assertBreaks(answered()[0], frame(AWAY, 0, 0, greatest), "number")
        self.assertBreaks(End(1), frame(AWAY, 0, 0, 2), "number")

    def test_leaving_tells_a_talk_of_the_other_side(self):
        end = End(1)
        for _ in range(3):
            end.begin([], False)
        self.assertBreaks(end, frame(AWAY, 0, 0, 5), "number")
        one, other = answered()
        one.begin([], False)
        self.assertBreaks(one, frame(AWAY, 0, 0, 2), "number")
        self.assertBreaks(other, frame(AWAY, 0, 0, 1), "number")

    def test_leaving_at_the_edges(self):
        for greatest in (0, 1, 3):
            one, _ = both_ends()
            one.begin([], False)
            one.begin([], False)
            self.assertEqual(one.hear(frame(AWAY, 0, 0, greatest)), [("away", greatest)])
        self.assertEqual(End(0).hear(frame(AWAY, 0, 0, 0)), [("away", 0)])

    def test_frames_on_talks_that_have_not_begun(self):
        for kind, numbers in ((BODY, [1]), (CREDIT, [0, 1]), (RESET, [1]), (RANK, [1])):
            for side, talks in ((0, (3, 2, 4, 251, 255)), (1, (2, 3, 4, 255))):
                for talk in talks:
                    with self.subTest(kind=kind, side=side, talk=talk):
                        self.assertBreaks(answered()[side], frame(kind, 0, talk, *numbers), "number")

    def test_only_credit_is_for_the_line(self):
        for kind, numbers in ((HEAD, []), (BODY, [1]), (RESET, [1]), (RANK, [1])):
            self.assertBreaks(answered()[0], frame(kind, 0, 0, *numbers), "number")
        self.assertEqual(End(0).hear(frame(CREDIT, 0, 0, 0, 1)), [("credit", 0, 1)])

    def test_a_head_that_begins_a_talk(self):
        for side, talks in ((0, (2, 4, 8, 250)), (1, (1, 3, 7, 249))):
            end = End(side)
            for talk in talks:
                self.assertEqual(end.hear(head_frame(talk)), [("begun", talk, [])])
            self.assertEqual(end.broken, "")

    def test_a_head_of_this_ends_side(self):
        self.assertBreaks(End(0), head_frame(1), "number")
        self.assertBreaks(End(1), head_frame(2), "number")
        self.assertBreaks(answered()[0], head_frame(3), "number")

    def test_a_head_above_250(self):
        self.assertBreaks(End(1), head_frame(251), "number")
        self.assertBreaks(End(1), head_frame(255), "number")
        self.assertBreaks(End(0), head_frame(252), "number")
        self.assertBreaks(End(1), head_frame(-1), "number")

    def test_a_head_that_is_not_greater_than_all_so_far(self):
        end = End(1)
        end.hear(head_frame(7))
        self.assertBreaks(end, head_frame(5), "number")
        end = End(0)
        end.hear(head_frame(2) + head_frame(6))
        self.assertBreaks(end, head_frame(4), "number")

    def test_frames_on_a_talk_that_was_skipped(self):
        for kind, numbers in ((BODY, []), (CREDIT, [0, 1]), (RESET, [1]), (RANK, [1])):
            end = End(1)
            end.hear(head_frame(7))
            self.assertBreaks(end, frame(kind, 0, 5, *numbers), "number")

    def test_ahead_of_away_and_credit_and_many_and_head(self):
        one, other = answered()
        other.leave()
        carried(other, one)
        self.assertBreaks(one, frame(AWAY, 0, 0, 3), "number")
        self.assertBreaks(End(1), frame(CREDIT, 0, 1, 0, 0), "number")
        self.assertBreaks(End(1), frame(RANK, 0, 1, 8), "number")
        self.assertBreaks(End(1), body_frame(1, 100), "number")
        self.assertBreaks(End(1), no_head(2), "number")


class AwayTest(EndTest):

    def test_told_already(self):
        for greatest in (0, 1):
            one, other = answered()
            other.leave()
            carried(other, one)
            self.assertBreaks(one, frame(AWAY, 0, 0, greatest), "away")

    def test_this_end_may_have_left(self):
        end = End(0)
        end.leave()
        self.assertEqual(end.hear(frame(AWAY, 0, 0, 0)), [("away", 0)])


class ShutTest(EndTest):
    ALL = [(HEAD, []), (BODY, []), (CREDIT, [0, 1]), (RESET, [1]), (RANK, [1])]

    def test_reset_by_the_other_end(self):
        for kind, numbers in self.ALL:
            self.assertBreaks(reset_there(), frame(kind, 0, 1, *numbers), "shut")

    def test_reset_by_both(self):
        for kind, numbers in self.ALL:
            one = reset_here()
            self.assertEqual(one.hear(frame(RESET, 0, 1, 5)), [])
            self.assertBreaks(one, frame(kind, 0, 1, *numbers), "shut")

    def test_a_talk_of_the_other_end(self):
        for kind, numbers in self.ALL:
            one, other = begun()
            one.reset(1, 0)
            carried(one, other)
            self.assertBreaks(other, frame(kind, 0, 1, *numbers), "shut")

    def test_shut_by_its_leaving(self):
        for kind, numbers in self.ALL:
            one, _ = answered()
            one.begin([], False)
            one.hear(frame(AWAY, 0, 0, 1))
            self.assertEqual(one.hear(frame(RANK, 0, 1, 1)), [("rank", 1, 1)])
            self.assertBreaks(one, frame(kind, 0, 3, *numbers), "shut")

    def test_shut_by_its_leaving_and_reset_here(self):
        one, _ = both_ends()
        one.begin([], False)
        one.reset(1, 0)
        one.hear(frame(AWAY, 0, 0, 0))
        self.assertBreaks(one, frame(BODY, 0, 1), "shut")

    def test_passed_over_and_reset_by_the_other_end(self):
        end = End(1)
        end.leave()
        self.assertEqual(end.hear(head_frame(1) + frame(RESET, 0, 1, 1)), [])
        self.assertBreaks(end, head_frame(1), "shut")

    def test_ahead_of_all_that_follow(self):
        self.assertBreaks(reset_there(), no_head(1), "shut")
        self.assertBreaks(reset_there(), body_frame(1, 100), "shut")
        self.assertBreaks(reset_there(), frame(CREDIT, 0, 1, 0, 0), "shut")
        self.assertBreaks(reset_there(), frame(RANK, 0, 1, 8), "shut")


class PassedOverTest(EndTest):

    def test_more_than_the_lines_credit(self):
        one = reset_here()
        self.assertBreaks(one, body_frame(1, 61), "credit")
        one = reset_here()
        self.assertEqual(one.hear(body_frame(1, 60)), [])
        self.assertBreaks(one, body_frame(1, 1), "credit")

    def test_from_the_beginning(self):
        end = End(1)
        end.leave()
        self.assertEqual(end.hear(head_frame(1) + body_frame(1, 60)), [])
        self.assertBreaks(end, body_frame(1, 1), "credit")

    def test_the_lines_credit_that_was_given(self):
        one = reset_here()
        one.grant(0, 5)
        self.assertBreaks(one, body_frame(1, 66), "credit")
        one = reset_here()
        one.grant(0, 5)
        self.assertEqual(one.hear(body_frame(1, 65) + body_frame(1, 0)), [])

    def test_nothing_else(self):
        one = reset_here()
        for numbers in (head_frame(1), head_frame(1), body_frame(1, 1, 1), body_frame(1, 25), frame(CREDIT, 0, 1, 0, 0),
                        frame(CREDIT, 0, 1, 255, 255), frame(RANK, 0, 1, 8), frame(RANK, 0, 1, 255)):
            self.assertEqual(one.hear(numbers), [])
        self.assertEqual((one.broken, one.left(1)), ("", 20))

    def test_not_early(self):
        one, _ = begun()
        one.reset(1, 0)
        self.assertEqual(one.hear(body_frame(1, 3)), [])

    def test_a_head_that_is_none(self):
        self.assertBreaks(reset_here(), no_head(1), "head")
        end = End(1)
        end.leave()
        self.assertBreaks(end, no_head(1), "head")

    def test_form_is_refused_as_ever(self):
        self.assertBreaks(reset_here(), frame(7, 0, 1), "kind")
        self.assertBreaks(reset_here(), frame(RESET, 0, 1), "size")
        self.assertBreaks(reset_here(), frame(BODY, 2, 1), "flag")


class OthersTest(EndTest):

    def test_twice(self):
        one, other = answered()
        self.assertBreaks(one, head_frame(1), "twice")
        self.assertBreaks(other, head_frame(1), "twice")

    def test_twice_behind_the_last(self):
        one, other = answered(last=True, answer_last=True)
        self.assertBreaks(one, head_frame(1), "twice")
        self.assertBreaks(other, head_frame(1), "twice")

    def test_twice_ahead_of_head(self):
        self.assertBreaks(answered()[0], no_head(1), "twice")

    def test_early(self):
        for size in (0, 1, 20):
            self.assertBreaks(begun()[0], body_frame(1, size), "early")

    def test_early_ahead_of_credit(self):
        self.assertBreaks(begun()[0], body_frame(1, 21), "early")

    def test_not_early_on_a_talk_of_the_other_end(self):
        self.assertEqual(begun()[1].hear(body_frame(1, 1)), [("body", 1, [7])])

    def test_other_frames_are_never_early(self):
        one, _ = begun()
        self.assertEqual(one.hear(frame(CREDIT, 0, 1, 0, 1) + frame(RANK, 0, 1, 0) + frame(RESET, 0, 1, 0)),
                         [("credit", 1, 1), ("rank", 1, 0), ("reset", 1, 0)])

    def test_ended(self):
        self.assertBreaks(answered(last=True)[1], body_frame(1, 0), "ended")
        self.assertBreaks(answered(answer_last=True)[0], body_frame(1, 1), "ended")
        one, _ = answered()
        self.assertEqual(one.hear(body_frame(1, 3, 1)), [("body", 1, [7] * 3), ("ended", 1)])
        self.assertBreaks(one, body_frame(1, 0, 1), "ended")

    def test_ended_ahead_of_credit(self):
        self.assertBreaks(answered(last=True)[1], body_frame(1, 61), "ended")

    def test_other_frames_behind_the_last(self):
        for end in answered(last=True, answer_last=True):
            self.assertEqual(end.hear(frame(CREDIT, 0, 1, 0, 1) + frame(RANK, 0, 1, 0) + frame(RESET, 0, 1, 0)),
                             [("credit", 1, 1), ("rank", 1, 0), ("reset", 1, 0)])

    def test_the_talks_credit(self):
        self.assertBreaks(answered()[0], body_frame(1, 21), "credit")
        one, _ = answered()
        self.assertEqual(one.hear(body_frame(1, 20) + body_frame(1, 0)), [("body", 1, [7] * 20)])
        self.assertBreaks(one, body_frame(1, 1), "credit")

    def test_the_talks_credit_that_was_given(self):
        one, _ = answered()
        one.grant(1, 9)
        self.assertBreaks(one, body_frame(1, 30), "credit")
        one, _ = answered()
        one.grant(1, 9)
        self.assertEqual(one.hear(body_frame(1, 29)), [("body", 1, [7] * 29)])

    def test_the_lines_credit(self):
        for many, last, word in ((3, 20, ""), (3, 21, "credit"), (4, 1, "credit")):
            end = End(1)
            for talk in range(1, 10, 2):
                end.hear(head_frame(talk))
            for talk in range(1, 2 * many - 1, 2):
                self.assertEqual(end.hear(body_frame(talk, 20)), [("body", talk, [7] * 20)])
            heard = end.hear(body_frame(2 * many - 1, last))
            self.assertEqual(heard, [("broken", word)] if word else [("body", 2 * many - 1, [7] * last)])

    def test_the_lines_credit_where_the_talk_has_more(self):
        end = End(1)
        end.hear(head_frame(1))
        end.grant(1, 100)
        self.assertBreaks(end, body_frame(1, 61), "credit")
        end = End(1)
        end.hear(head_frame(1))
        end.grant(1, 100)
        end.grant(0, 1)
        self.assertEqual(end.hear(body_frame(1, 61)), [("body", 1, [7] * 61)])

    def test_credit_of_none(self):
        self.assertBreaks(answered()[0], frame(CREDIT, 0, 1, 0, 0), "many")
        self.assertBreaks(End(0), frame(CREDIT, 0, 0, 0, 0), "many")

    def test_too_much_credit_for_a_talk(self):
        self.assertBreaks(answered()[0], frame(CREDIT, 0, 1, 38, 253), "many")
        self.assertBreaks(answered()[0], frame(CREDIT, 0, 1, 255, 255), "many")
        one, _ = answered()
        self.assertEqual(one.hear(frame(CREDIT, 0, 1, 38, 252)), [("credit", 1, 9980)])
        self.assertBreaks(one, frame(CREDIT, 0, 1, 0, 1), "many")

    def test_too_much_credit_for_the_line(self):
        self.assertBreaks(End(0), frame(CREDIT, 0, 0, 38, 213), "many")
        end = End(0)
        self.assertEqual(end.hear(frame(CREDIT, 0, 0, 38, 212)), [("credit", 0, 9940)])
        self.assertBreaks(end, frame(CREDIT, 0, 0, 0, 1), "many")

    def test_what_was_said_may_be_given_again(self):
        one, _ = answered()
        one.hear(frame(CREDIT, 0, 1, 38, 252) + frame(CREDIT, 0, 0, 38, 212))
        one.say(1, [1] * 7, False)
        one.next_frame()
        self.assertEqual(one.hear(frame(CREDIT, 0, 1, 0, 7) + frame(CREDIT, 0, 0, 0, 7)),
                         [("credit", 1, 7), ("credit", 0, 7)])
        self.assertBreaks(one, frame(CREDIT, 0, 1, 0, 1), "many")

    def test_ranks(self):
        for rank in range(8):
            self.assertEqual(answered()[0].hear(frame(RANK, 0, 1, rank)), [("rank", 1, rank)])
        for rank in (8, 9, 255):
            self.assertBreaks(answered()[0], frame(RANK, 0, 1, rank), "many")

    def test_any_number_of_a_reset(self):
        for number in (0, 8, 255):
            self.assertEqual(answered()[0].hear(frame(RESET, 0, 1, number)), [("reset", 1, number)])


class HeadTest(EndTest):

    def test_heads_that_are_none(self):
        wrong = [[2], [2, 0, 0], [2, 9] + [64] * 9 + [0], [2, 1, 94, 0], [2, 1, 64, 21] + [64] * 21, [0, 0], [1, 0, 0],
                 [2, 1, 64, 0] * 7, [3, 0]]
        for numbers in wrong:
            with self.subTest(numbers=numbers):
                self.assertBreaks(End(1), frame(HEAD, 0, 1, *numbers), "head")
                self.assertBreaks(begun()[0], frame(HEAD, 0, 1, *numbers), "head")

    def test_a_head_that_is_none_begins_no_talk(self):
        end = End(1)
        end.hear(no_head(1))
        self.assertRefused(end, "talk", "left", 1)

    def test_by_the_shelf_as_it_is(self):
        end = End(1)
        end.hear(frame(HEAD, 0, 1, 2, 1, 64, 0))
        self.assertEqual(end.hear(frame(HEAD, 0, 3, 0, 0)), [("begun", 3, [("a", "")])])
        self.assertBreaks(end, frame(HEAD, 0, 5, 0, 1), "head")


class PieceTest(EndTest):

    def test_what_comes_ahead_is_told_and_what_comes_behind_is_not(self):
        end = End(1)
        numbers = head_frame(1, [("a", "1")]) + body_frame(1, 2, 1) + frame(8, 0, 0) + head_frame(3) + [5, 5]
        self.assertEqual(end.hear(numbers), [("begun", 1, [("a", "1")]), ("body", 1, [7, 7]), ("ended", 1),
                                             ("broken", "kind")])
        self.assertEqual(end.hear(head_frame(3)), [])
        self.assertRefused(end, "talk", "left", 3)

    def test_a_frame_is_looked_at_as_soon_as_it_is_whole(self):
        end = End(1)
        numbers = [3, 9, 9, 9, 1, 2]
        for number in numbers:
            self.assertEqual(end.hear([number]), [])
        self.assertEqual(end.hear([3]), [("broken", "kind")])

    def test_a_refused_body_takes_no_credit(self):
        one, _ = answered()
        one.hear(body_frame(1, 21))
        self.assertEqual((one.left(0), one.left(1)), (60, 20))

    def test_no_numbers(self):
        self.assertEqual(End(0).hear([]), [])


if __name__ == "__main__":
    unittest.main()
