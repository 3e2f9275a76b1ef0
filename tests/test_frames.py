"""Frames: point 2, and the last two sentences of point 1."""

import random
import unittest

from oneline.frames import Cutter, Frame, framed


def fields(frame):
    """What a frame tells, to compare it by."""
    return frame.kind, frame.flag, frame.talk, frame.numbers


def all_fields(frames):
    return [fields(frame) for frame in frames]


def drawn_frames(chance, many, most):
    """Frames of all kinds of numbers, with at most so many carried."""
    return [
        (chance.randrange(256), chance.randrange(256), chance.randrange(256),
         chance.choices(range(256), k=chance.randrange(most + 1)))
        for _ in range(many)
    ]


def line_of(told):
    """The numbers of frames, written out on its own: size, kind, flag, talk, numbers."""
    line = []
    for kind, flag, talk, numbers in told:
        line.extend([len(numbers), kind, flag, talk, *numbers])
    return line


class FramedTest(unittest.TestCase):

    def test_a_frame_with_numbers(self):
        self.assertEqual(framed(2, 1, 7, [30, 40, 50]), [3, 2, 1, 7, 30, 40, 50])

    def test_a_frame_without_numbers(self):
        self.assertEqual(framed(1, 0, 250, []), [0, 1, 0, 250])

    def test_a_frame_with_255_numbers(self):
        numbers = list(range(255))
        self.assertEqual(framed(2, 0, 1, numbers), [255, 2, 0, 1] + numbers)

    def test_nothing_is_looked_at(self):
        self.assertEqual(framed(0, 9, 255, [255]), [1, 0, 9, 255, 255])

    def test_the_list_that_is_handed_in_stays(self):
        numbers = [1, 2, 3]
        given = framed(2, 0, 1, numbers)
        self.assertEqual(numbers, [1, 2, 3])
        given.clear()
        self.assertEqual(numbers, [1, 2, 3])

    def test_the_list_that_is_given_back_is_no_part_of_the_one_handed_in(self):
        numbers = []
        given = framed(2, 0, 1, numbers)
        numbers.append(5)
        self.assertEqual(given, [0, 2, 0, 1])


class CutterTest(unittest.TestCase):

    def test_nothing_at_first(self):
        self.assertEqual(Cutter().fed([]), [])

    def test_one_frame_in_one_piece(self):
        frames = Cutter().fed([3, 2, 1, 7, 30, 40, 50])
        self.assertEqual(all_fields(frames), [(2, 1, 7, [30, 40, 50])])
        self.assertIs(type(frames), list)
        self.assertIs(type(frames[0]), Frame)
        self.assertIs(type(frames[0].numbers), list)

    def test_a_frame_without_numbers(self):
        self.assertEqual(all_fields(Cutter().fed([0, 1, 0, 250])), [(1, 0, 250, [])])

    def test_several_frames_in_one_piece(self):
        frames = Cutter().fed([1, 2, 0, 7, 9, 0, 1, 1, 8, 2, 3, 0, 0, 1, 4])
        self.assertEqual(all_fields(frames), [(2, 0, 7, [9]), (1, 1, 8, []), (3, 0, 0, [1, 4])])

    def test_a_beginning_stays_for_later(self):
        cutter = Cutter()
        self.assertEqual(all_fields(cutter.fed([0, 1, 0, 1, 2, 2, 0])), [(1, 0, 1, [])])
        self.assertEqual(cutter.fed([]), [])
        self.assertEqual(cutter.fed([1, 30]), [])
        self.assertEqual(all_fields(cutter.fed([40, 1])), [(2, 0, 1, [30, 40])])
        self.assertEqual(all_fields(cutter.fed([4, 0, 1, 6])), [(4, 0, 1, [6])])
        self.assertEqual(cutter.fed([]), [])

    def test_a_frame_comes_with_its_last_number(self):
        for size in (0, 1, 2, 20, 254, 255):
            line = framed(2, 0, 3, [size] * size)
            cutter = Cutter()
            self.assertEqual(cutter.fed(line[:-1]), [])
            self.assertEqual(all_fields(cutter.fed(line[-1:])), [(2, 0, 3, [size] * size)])

    def test_each_split_into_two_pieces(self):
        told = [(2, 0, 1, [5, 6]), (1, 1, 2, []), (5, 0, 4, [7])]
        line = line_of(told)
        for split in range(len(line) + 1):
            cutter = Cutter()
            first = cutter.fed(line[:split])
            whole = [split >= 6, split >= 10, split >= 15].count(True)
            self.assertEqual(all_fields(first), told[:whole])
            self.assertEqual(all_fields(cutter.fed(line[split:])), told[whole:])

    def test_one_number_by_one_number(self):
        told = drawn_frames(random.Random(1), 60, 255)
        cutter = Cutter()
        for frame in told:
            line = line_of([frame])
            for number in line[:-1]:
                self.assertEqual(cutter.fed([number]), [])
            self.assertEqual(all_fields(cutter.fed(line[-1:])), [frame])

    def test_pieces_of_drawn_lengths(self):
        for most in (1, 3, 10, 40, 2000):
            chance = random.Random(most)
            told = drawn_frames(chance, 120, 30)
            line = line_of(told)
            cutter, got, at = Cutter(), [], 0
            while at < len(line):
                size = chance.randrange(most + 1)
                got.extend(cutter.fed(line[at:at + size]))
                self.assertEqual(cutter.fed([]), [])
                at += size
            self.assertEqual(all_fields(got), told)

    def test_one_piece_far_longer_than_a_frame(self):
        told = drawn_frames(random.Random(2), 3000, 255)
        line = line_of(told)
        cutter = Cutter()
        self.assertEqual(all_fields(cutter.fed(line + [2, 1])), told)
        self.assertEqual(all_fields(cutter.fed([0, 9, 8, 7])), [(1, 0, 9, [8, 7])])

    def test_each_count_of_numbers(self):
        told = [(2, 0, 1, [size] * size) for size in range(256)]
        self.assertEqual(all_fields(Cutter().fed(line_of(told))), told)

    def test_each_number_at_each_place(self):
        for number in range(256):
            told = [
                (number, 0, 1, [2]), (1, number, 1, [2]), (1, 0, number, [2]),
                (1, 0, 1, [number, 2]), (1, 0, 1, [2, number]), (number, number, number, [number] * number),
            ]
            self.assertEqual(all_fields(Cutter().fed(line_of(told))), told)

    def test_what_framed_gives_is_cut_again(self):
        told = drawn_frames(random.Random(5), 100, 255)
        line = []
        for kind, flag, talk, numbers in told:
            line.extend(framed(kind, flag, talk, numbers))
        self.assertEqual(all_fields(Cutter().fed(line)), told)

    def test_cutters_have_nothing_in_common(self):
        first, second = Cutter(), Cutter()
        self.assertEqual(first.fed([0, 1, 0]), [])
        self.assertEqual(all_fields(second.fed([0, 2, 0, 5])), [(2, 0, 5, [])])
        self.assertEqual(all_fields(first.fed([9])), [(1, 0, 9, [])])

    def test_a_size_below_0_ends_too(self):
        self.assertEqual(all_fields(Cutter().fed([-4, 1, 0, 1, 0, 1, 0, 2])), [(1, 0, 1, []), (1, 0, 2, [])])


class CopiesTest(unittest.TestCase):

    def test_pieces_that_are_handed_in_stay(self):
        piece = [1, 2, 0, 7, 9, 3, 2]
        cutter = Cutter()
        frames = cutter.fed(piece)
        self.assertEqual(piece, [1, 2, 0, 7, 9, 3, 2])
        frames[0].numbers.append(1)
        cutter.fed([0, 1, 5, 5, 5])
        self.assertEqual(piece, [1, 2, 0, 7, 9, 3, 2])

    def test_changing_a_piece_afterwards_changes_nothing(self):
        cutter = Cutter()
        piece = [2, 2, 0, 7, 30]
        cutter.fed(piece)
        piece[4] = 99
        piece.append(98)
        self.assertEqual(all_fields(cutter.fed([40])), [(2, 0, 7, [30, 40])])

    def test_changing_a_piece_afterwards_changes_no_frame(self):
        piece = [2, 2, 0, 7, 30, 40]
        frames = Cutter().fed(piece)
        piece[4] = 99
        self.assertEqual(all_fields(frames), [(2, 0, 7, [30, 40])])

    def test_what_is_given_back_may_be_changed(self):
        cutter = Cutter()
        frames = cutter.fed([1, 2, 0, 7, 9, 1, 2, 0, 7, 8, 1, 2, 1, 7])
        frames[0].numbers.append(5)
        self.assertEqual(fields(frames[1]), (2, 0, 7, [8]))
        frames[1].numbers.clear()
        frames[1].talk = 9
        frames.clear()
        later = cutter.fed([3])
        self.assertEqual(all_fields(later), [(2, 1, 7, [3])])
        cutter.fed([]).append("more")
        self.assertEqual(cutter.fed([]), [])


if __name__ == "__main__":
    unittest.main()
