"""Points 7, 10, 11 and 12: what goes out, in which order, and by which credit."""

import random
import unittest

from oneline.ends import End

from joined import (AWAY, BODY, CREDIT, HEAD, RANK, RESET, EndTest, answered, begun, both_ends, carried, frame,
                    frames_of)


def teller_of(many):
    """An end that has begun so many talks; their heads have gone out."""
    end = End(0)
    for _ in range(many):
        end.begin([], False)
    while end.next_frame():
        pass
    return end


def talks_of(frames):
    return [numbers[3] for numbers in frames]


def credit(talk, many):
    return frame(CREDIT, 0, talk, many // 256, many % 256)


class FramesTest(EndTest):

    def test_a_head(self):
        end = End(0)
        end.begin([("a", "")], False)
        end.begin([("a", "")], True)
        self.assertEqual(frames_of(end), [frame(HEAD, 0, 1, 2, 1, 64, 0), frame(HEAD, 1, 3, 0, 0)])

    def test_an_answer(self):
        _, other = begun()
        other.answer(1, [("a", "")], True)
        self.assertEqual(frames_of(other), [frame(HEAD, 1, 1, 2, 1, 64, 0)])

    def test_all_but_bodies(self):
        one, _ = begun()
        one.grant(1, 1)
        one.grant(0, 300)
        one.ask_rank(1, 7)
        one.reset(1, 255)
        one.leave()
        self.assertEqual(frames_of(one), [frame(CREDIT, 0, 1, 0, 1), frame(CREDIT, 0, 0, 1, 44), frame(RANK, 0, 1, 7),
                                          frame(RESET, 0, 1, 255), frame(AWAY, 0, 0, 0)])

    def test_much_credit(self):
        one, other = answered()
        one.grant(1, 9980)
        one.grant(0, 9940)
        self.assertEqual(frames_of(one), [frame(CREDIT, 0, 1, 38, 252), frame(CREDIT, 0, 0, 38, 212)])
        self.assertEqual(carried(one, other), [("credit", 1, 9980), ("credit", 0, 9940)])
        self.assertEqual((other.left(1), other.left(0)), (10000, 10000))

    def test_credit_is_told_by_two_numbers(self):
        for many, numbers in ((1, [0, 1]), (255, [0, 255]), (256, [1, 0]), (257, [1, 1]), (512, [2, 0]), (5375, [20, 255])):
            one, other = answered()
            one.grant(1, many)
            self.assertEqual(frames_of(one), [frame(CREDIT, 0, 1, *numbers)])
            self.assertEqual(carried(one, other), [("credit", 1, many)])

    def test_nothing_may_go(self):
        self.assertEqual(End(0).next_frame(), [])
        one, _ = answered()
        one.say(1, [], False)
        self.assertEqual(one.next_frame(), [])


class BodyTest(EndTest):

    def test_at_most_ten_numbers(self):
        for many, sizes in ((1, [1]), (9, [9]), (10, [10]), (11, [10, 1]), (20, [10, 10])):
            one, other = answered()
            numbers = list(range(many))
            one.say(1, numbers, False)
            frames = frames_of(one)
            self.assertEqual([said[0] for said in frames], sizes)
            self.assertEqual([said[1:4] for said in frames], [[BODY, 0, 1]] * len(sizes))
            heard = carried(one, other)
            self.assertEqual(sum([event[2] for event in heard], []), numbers)

    def test_numbers_of_several_deeds_go_together(self):
        one, _ = answered()
        one.say(1, [1, 2], False)
        one.say(1, [3], False)
        self.assertEqual(frames_of(one), [frame(BODY, 0, 1, 1, 2, 3)])

    def test_the_last_body_has_the_flag(self):
        one, other = answered()
        one.say(1, list(range(12)), True)
        self.assertEqual([said[:4] for said in frames_of(one)], [[10, BODY, 0, 1], [2, BODY, 1, 1]])
        self.assertEqual(carried(one, other), [("body", 1, list(range(10))), ("body", 1, [10, 11]), ("ended", 1)])
        self.assertEqual(one.next_frame(), [])

    def test_just_ten_and_the_last(self):
        one, _ = answered()
        one.say(1, [1] * 10, True)
        self.assertEqual([said[:4] for said in frames_of(one)], [[10, BODY, 1, 1]])

    def test_told_to_be_the_last_behind_what_waits(self):
        one, _ = answered()
        one.say(1, [1], False)
        one.say(1, [], True)
        self.assertEqual(frames_of(one), [frame(BODY, 1, 1, 1)])

    def test_told_to_be_the_last_behind_what_went(self):
        one, other = answered()
        one.say(1, [1], False)
        carried(one, other)
        one.say(1, [], True)
        self.assertEqual(frames_of(one), [frame(BODY, 1, 1)])
        self.assertEqual(carried(one, other), [("ended", 1)])
        self.assertEqual(one.next_frame(), [])

    def test_no_numbers_need_no_credit(self):
        one, other = answered()
        one.say(1, [1] * 20, False)
        carried(one, other)
        one.say(1, [], True)
        self.assertEqual(one.left(1), 0)
        self.assertEqual(frames_of(one), [frame(BODY, 1, 1)])

    def test_no_numbers_need_none_of_the_lines_credit(self):
        end = teller_of(4)
        for talk in (1, 3, 5):
            end.say(talk, [1] * 20, False)
        while end.next_frame():
            pass
        self.assertEqual(end.left(0), 0)
        end.say(7, [], True)
        end.say(5, [1], True)
        self.assertEqual(frames_of(end), [frame(BODY, 1, 7)])

    def test_the_talks_credit(self):
        one, other = answered()
        one.say(1, list(range(25)), True)
        self.assertEqual([said[:4] for said in frames_of(one)], [[10, BODY, 0, 1], [10, BODY, 0, 1]])
        carried(one, other)
        self.assertEqual((one.left(1), one.waiting(1), one.left(0)), (0, 5, 40))
        other.grant(1, 3)
        self.assertEqual(carried(other, one), [("credit", 1, 3)])
        self.assertEqual(carried(one, other), [("body", 1, [20, 21, 22])])
        other.grant(1, 2)
        carried(other, one)
        self.assertEqual(carried(one, other), [("body", 1, [23, 24]), ("ended", 1)])
        self.assertEqual((one.left(1), one.waiting(1), one.left(0)), (0, 0, 35))

    def test_the_last_one_waits_for_credit(self):
        one, other = answered()
        one.say(1, [1] * 21, True)
        carried(one, other)
        self.assertEqual((one.next_frame(), one.waiting(1)), ([], 1))
        other.grant(1, 5)
        carried(other, one)
        self.assertEqual(one.next_frame(), frame(BODY, 1, 1, 1))
        self.assertEqual(one.left(1), 4)

    def test_the_lines_credit(self):
        end = teller_of(4)
        for talk in (1, 3, 5, 7):
            end.say(talk, [talk] * 16, False)
        frames = frames_of(end)
        self.assertEqual([said[0] for said in frames], [10, 10, 10, 10, 6, 6, 6, 2])
        self.assertEqual(talks_of(frames), [1, 3, 5, 7, 1, 3, 5, 7])
        while end.next_frame():
            pass
        self.assertEqual((end.left(0), end.left(7), end.waiting(7)), (0, 8, 4))
        self.assertEqual(end.hear(credit(0, 1)), [("credit", 0, 1)])
        self.assertEqual(end.next_frame(), frame(BODY, 0, 7, 7))
        self.assertEqual(end.next_frame(), [])

    def test_each_way_has_its_own_credit(self):
        one, other = answered()
        one.say(1, [1] * 20, False)
        carried(one, other)
        self.assertEqual((other.left(0), other.left(1)), (60, 20))

    def test_both_ends_say_at_once(self):
        one, other = answered()
        one.say(1, [1, 2], True)
        other.say(1, [3], True)
        out, back = one.next_frame(), other.next_frame()
        self.assertEqual(other.hear(out), [("body", 1, [1, 2]), ("ended", 1)])
        self.assertEqual(one.hear(back), [("body", 1, [3]), ("ended", 1)])

    def test_numbers_ahead_of_the_answer(self):
        one, other = begun()
        one.say(1, [1, 2], False)
        self.assertEqual(carried(one, other), [("body", 1, [1, 2])])

    def test_numbers_on_the_other_ends_talk(self):
        one, other = answered()
        other.say(1, [9], True)
        self.assertEqual(carried(other, one), [("body", 1, [9]), ("ended", 1)])


class OrderTest(EndTest):

    def test_in_the_order_in_which_they_were_asked_for(self):
        one, _ = begun()
        one.say(1, [1], False)
        one.ask_rank(1, 3)
        one.begin([], False)
        one.grant(3, 2)
        one.leave()
        one.grant(1, 2)
        one.reset(3, 1)
        one.begin([], False)
        self.assertEqual([said[1:4] for said in frames_of(one)],
                         [[RANK, 0, 1], [HEAD, 0, 3], [CREDIT, 0, 3], [AWAY, 0, 0], [CREDIT, 0, 1], [RESET, 0, 3],
                          [HEAD, 0, 5], [BODY, 0, 1]])

    def test_what_is_asked_for_later_goes_ahead_of_bodies_that_wait(self):
        one, _ = begun()
        one.say(1, [1] * 20, False)
        self.assertEqual(one.next_frame()[1], BODY)
        one.grant(0, 1)
        self.assertEqual([said[1] for said in frames_of(one)], [CREDIT, BODY])

    def test_a_head_is_told_by_the_shelf_as_it_is_when_it_is_asked_for(self):
        end = End(0)
        end.begin([("a", "")], False)
        end.begin([("a", ""), ("b", "")], False)
        end.begin([("b", ""), ("a", "")], False)
        self.assertEqual([said[4:] for said in frames_of(end)], [[2, 1, 64, 0], [0, 0, 2, 1, 65, 0], [0, 0, 0, 1]])
        self.assertEqual(end.told.pairs, [("b", ""), ("a", "")])

    def test_the_lowest_rank_goes(self):
        for rank in range(8):
            end = teller_of(3)
            self.assertEqual(end.hear(frame(RANK, 0, 3, rank)), [("rank", 3, rank)])
            for talk in (1, 3, 5):
                end.say(talk, [1] * 11, False)
            wanted = {True: [3, 3, 1, 5, 1, 5], False: [1, 5, 1, 5, 3, 3]}[rank < 4]
            if rank == 4:
                wanted = [1, 3, 5, 1, 3, 5]
            with self.subTest(rank=rank):
                self.assertEqual(talks_of(frames_of(end)), wanted)

    def test_ranks_from_0_to_7(self):
        end = teller_of(8)
        for talk in range(1, 17, 2):
            end.hear(frame(RANK, 0, talk, (17 - talk) // 2 - 1))
            end.say(talk, [1], False)
        self.assertEqual(talks_of(frames_of(end)), [15, 13, 11, 9, 7, 5, 3, 1])

    def test_the_rank_that_was_asked_for_last(self):
        end = teller_of(2)
        end.hear(frame(RANK, 0, 3, 0) + frame(RANK, 0, 3, 5))
        end.say(1, [1], False)
        end.say(3, [1], False)
        self.assertEqual(talks_of(frames_of(end)), [1, 3])

    def test_turns_among_equal_ranks(self):
        end = teller_of(3)
        for talk in (5, 3, 1):
            end.say(talk, [1] * 20, False)
        self.assertEqual(talks_of(frames_of(end)), [1, 3, 5, 1, 3, 5])

    def test_the_least_lately_goes(self):
        end = teller_of(3)
        for talk in (3, 1, 5):
            end.say(talk, [1], False)
            end.next_frame()
        for talk in (1, 3, 5):
            end.say(talk, [1], False)
        self.assertEqual(talks_of(frames_of(end)), [3, 1, 5])

    def test_one_of_which_none_went_goes_ahead(self):
        end = teller_of(4)
        end.say(1, [1] * 20, False)
        self.assertEqual(end.next_frame()[3], 1)
        end.say(7, [1], False)
        end.say(5, [1], False)
        self.assertEqual(talks_of(frames_of(end)), [5, 7, 1])

    def test_turns_are_counted_over_ranks(self):
        end = teller_of(2)
        end.hear(frame(RANK, 0, 1, 0))
        end.say(1, [1], False)
        end.next_frame()
        end.say(3, [1], False)
        end.next_frame()
        end.hear(frame(RANK, 0, 1, 4))
        end.say(3, [1], False)
        end.say(1, [1], False)
        self.assertEqual(talks_of(frames_of(end)), [1, 3])

    def test_a_talk_without_credit_is_left_out(self):
        end = teller_of(2)
        end.hear(frame(RANK, 0, 1, 0))
        end.say(1, [1] * 21, False)
        end.say(3, [1], False)
        self.assertEqual(talks_of(frames_of(end)), [1, 1, 3])

    def test_an_ending_without_numbers_takes_its_turn(self):
        end = teller_of(3)
        end.say(5, [], True)
        end.say(3, [1], False)
        end.hear(frame(RANK, 0, 5, 5))
        self.assertEqual(frames_of(end), [frame(BODY, 0, 3, 1), frame(BODY, 1, 5)])
        end.hear(frame(RANK, 0, 5, 0))
        self.assertEqual(frames_of(end), [frame(BODY, 1, 5), frame(BODY, 0, 3, 1)])

    def test_talks_of_both_ends_take_turns(self):
        one, other = answered()
        other.begin([], False)
        carried(other, one)
        one.answer(2, [], False)
        one.say(2, [1] * 20, False)
        one.say(1, [1] * 20, False)
        one.next_frame()
        self.assertEqual(talks_of(frames_of(one)), [1, 2, 1, 2])

    def test_a_rank_is_for_the_end_that_hears_it(self):
        one, other = answered()
        one.begin([], False)
        carried(one, other)
        other.answer(3, [], False)
        one.ask_rank(3, 0)
        carried(one, other)
        for end in (one, other):
            end.say(1, [1], False)
            end.say(3, [1], False)
        self.assertEqual(talks_of(frames_of(other)[1:]), [3, 1])
        self.assertEqual(talks_of(frames_of(one)), [1, 3])


class OrderByAnotherReckoningTest(EndTest):

    def test_drawn_talks(self):
        drawn = random.Random(11)
        for _ in range(100):
            end = teller_of(6)
            end.hear(credit(0, 500))
            ranks = {talk: 4 for talk in range(1, 12, 2)}
            waits = {talk: 0 for talk in ranks}
            left = {talk: 20 for talk in ranks}
            went = []
            for _ in range(60):
                talk = drawn.choice(list(ranks))
                deed = drawn.randrange(4)
                if deed == 0:
                    ranks[talk] = drawn.randrange(8)
                    end.hear(frame(RANK, 0, talk, ranks[talk]))
                elif deed == 1:
                    many = drawn.randrange(14)
                    waits[talk] += many
                    end.say(talk, [1] * many, False)
                elif deed == 2:
                    left[talk] += 3
                    end.hear(credit(talk, 3))
                else:
                    may = [talk for talk in ranks if waits[talk] and left[talk]]
                    lowest = [talk for talk in may if ranks[talk] == min(ranks[talk] for talk in may)]
                    never = [talk for talk in lowest if talk not in went]
                    # Behind those of which none went stand those of which one went, the latest last.
                    lately = [talk for at, talk in enumerate(went) if talk in lowest and talk not in went[at + 1:]]
                    numbers = end.next_frame()
                    if not may:
                        self.assertEqual(numbers, [])
                        continue
                    talk = (sorted(never) + lately)[0]
                    many = min(10, waits[talk], left[talk])
                    self.assertEqual(numbers, frame(BODY, 0, talk, *([1] * many)))
                    waits[talk] -= many
                    left[talk] -= many
                    went.append(talk)


if __name__ == "__main__":
    unittest.main()
