"""Promise 2: look."""

import random
import unittest

from runpictures.squares import look
from tests.helper import HandedIn, longest, told

# Three squares wide and two high: a run of two in the row above, a run of one in the row below.
PLAIN = [3, 2, 1, 2, 1, 1, 1, 2, 1, 1, 1, 2, 1, 1, 1, 2, 0]


class Ordinary(unittest.TestCase):
    def test_rows_and_columns_agree(self):
        self.assertEqual(look(PLAIN), [0, 3, 3, 2, 0])

    def test_more_by_the_rows(self):
        self.assertEqual(look([2, 1, 1, 2, 1, 1, 1, 1, 0]), [0, 3, 2, 1, 1])
        self.assertEqual(look(told([[(5, 1), (2, 2)], [(1, 3)]], [[], [(3, 1)], []])), [0, 3, 3, 2, 5])

    def test_more_by_the_columns(self):
        self.assertEqual(look([2, 1, 0, 1, 1, 1, 1, 1, 1]), [0, 3, 2, 1, -2])
        self.assertEqual(look(told([[(1, 1)], []], [[(2, 1)], [(1, 2), (1, 3)], [(4, 1)]])), [0, 3, 3, 2, -7])

    def test_width_comes_first_and_rows_are_told_first(self):
        self.assertEqual(look(told([[(4, 1)]], [[], [], []])), [0, 3, 3, 1, 4])
        self.assertEqual(look(told([[], [], []], [[(4, 1)]])), [0, 3, 1, 3, -4])

    def test_colours_are_no_matter(self):
        self.assertEqual(look(told([[(2, 1)]], [[(1, 6)], [(1, 7)]])), [0, 3, 2, 1, 0])

    def test_runs_that_have_no_room_are_told_all_the_same(self):
        self.assertEqual(look([1, 1, 1, 64, 1, 2, 64, 7, 64, 1]), [0, 3, 1, 1, -64])

    def test_as_many_runs_as_a_byte_can_say(self):
        self.assertEqual(look([1, 1, 255] + [1, 1] * 255 + [65] + [2, 7] * 65), [0, 3, 1, 1, 125])

    def test_many_puzzles(self):
        dice = random.Random(4)
        for turn in range(200):
            sides = [dice.randint(1, 9), dice.randint(1, 9)]
            lines = [[[(dice.randint(1, 64), dice.randint(1, 7)) for run in range(dice.randint(0, 4))]
                      for line in range(side)] for side in sides]
            many = [sum(length for runs in side for length, colour in runs) for side in lines]
            self.assertEqual(look(told(lines[1], lines[0])), [0, 3, sides[0], sides[1], many[1] - many[0]])


class Edges(unittest.TestCase):
    def test_the_smallest(self):
        self.assertEqual(look([1, 1, 0, 0]), [0, 3, 1, 1, 0])
        self.assertEqual(look([1, 1, 1, 1, 1, 1, 1, 1]), [0, 3, 1, 1, 0])

    def test_sides_of_1_and_64(self):
        for width in (1, 64):
            for height in (1, 64):
                self.assertEqual(look([width, height] + [0] * (width + height)), [0, 3, width, height, 0])
                self.assertEqual(look(told([[(64, 7)]] * height, [[]] * width)), [0, 3, width, height, 64 * height])
                self.assertEqual(look(told([[]] * height, [[(64, 7)]] * width)), [0, 3, width, height, -64 * width])

    def test_lengths_1_and_64_and_colours_1_and_7(self):
        for length in (1, 64):
            for colour in (1, 7):
                self.assertEqual(look([1, 1, 1, length, colour, 0]), [0, 3, 1, 1, length])
                self.assertEqual(look([1, 1, 0, 1, length, colour]), [0, 3, 1, 1, -length])

    def test_the_longest_puzzle(self):
        puzzle = longest()
        self.assertEqual(len(puzzle), 16384)
        self.assertEqual(look(puzzle), [0, 3, 64, 64, 63])

    def test_the_largest_difference(self):
        puzzle = told([[(64, 7)] * 126] * 64, [[]] * 64)
        self.assertEqual(len(puzzle), 16258)
        self.assertEqual(look(puzzle), [0, 3, 64, 64, 64 * 126 * 64])


class HowManyBytes(unittest.TestCase):
    def test_no_byte(self):
        self.assertEqual(look([]), [-1])

    def test_one_byte_is_not_too_few_but_ends_too_early(self):
        self.assertEqual(look([1]), [-2])

    def test_too_many(self):
        self.assertEqual(look(longest() + [0]), [-1])
        self.assertEqual(look([1] * 16385), [-1])
        self.assertEqual(look([1] * 16400), [-1])
        self.assertEqual(look([1] * 16384), [-2])

    def test_a_puzzle_that_is_told_well_but_too_long(self):
        puzzle = told([[(1, 1)] * 64] * 64, [[(1, 1)] * 63] * 63 + [[(1, 1)] * 62])
        self.assertEqual(len(puzzle), 16384)
        self.assertEqual(look(puzzle), [0, 3, 64, 64, 64 * 64 - 63 * 63 - 62])
        longer = told([[(1, 1)] * 64] * 64, [[(1, 1)] * 63] * 64)
        self.assertEqual(len(longer), 16386)
        self.assertEqual(look(longer), [-1])

    def test_how_many_comes_before_what_they_are(self):
        self.assertEqual(look([0] * 16385), [-1])
        self.assertEqual(look([255] * 16400), [-1])
        self.assertEqual(look([1, 1, 1, 0, 8] + [9] * 16395), [-1])
        self.assertEqual(look([0] * 16384), [-2])


class NotAsTold(unittest.TestCase):
    def test_a_width_or_a_height_out_of_its_range(self):
        for side in (0, 65, 255):
            self.assertEqual(look([side, 1] + [0] * (side + 1)), [-2])
            self.assertEqual(look([1, side] + [0] * (side + 1)), [-2])
        self.assertEqual(look([0, 0]), [-2])
        self.assertEqual(look([0]), [-2])
        self.assertEqual(look([65]), [-2])

    def test_a_puzzle_that_ends_too_early(self):
        for puzzle in (PLAIN, [1, 1, 0, 0], [64, 64] + [0] * 128, [1, 1, 2, 1, 1, 64, 7, 1, 3, 2]):
            for size in range(1, len(puzzle)):
                self.assertEqual(look(puzzle[:size]), [-2], size)

    def test_the_longest_puzzle_cut_short(self):
        puzzle = longest()
        for size in list(range(1, 300)) + list(range(8000, 8300)) + list(range(16100, 16384)):
            self.assertEqual(look(puzzle[:size]), [-2], size)

    def test_bytes_behind_the_end(self):
        for puzzle in (PLAIN, [1, 1, 0, 0], [64, 64] + [0] * 128):
            for behind in ([0], [1], [255], [0, 0], [1, 1, 1], [0] * 64):
                self.assertEqual(look(puzzle + behind), [-2])

    def test_a_line_too_many_or_too_few(self):
        self.assertEqual(look([2, 2, 0, 0, 0, 0]), [0, 3, 2, 2, 0])
        self.assertEqual(look([2, 2, 0, 0, 0]), [-2])
        self.assertEqual(look([2, 2, 0, 0, 0, 0, 0]), [-2])

    def test_a_run_s_length_or_colour_out_of_its_range(self):
        bad = [(0, 1), (65, 1), (255, 1), (1, 0), (1, 8), (1, 255), (0, 0)]
        for run in bad:
            self.assertEqual(look(told([[run]], [[]])), [-2])
            self.assertEqual(look(told([[]], [[run]])), [-2])
            self.assertEqual(look(told([[(1, 1)], [(2, 2), run]], [[], [(1, 1)]])), [-2])
            self.assertEqual(look(told([[(1, 1)], []], [[], [run, (1, 1)]])), [-2])
            self.assertEqual(look(told([[(1, 1)], []], [[], [(1, 1), run]])), [-2])

    def test_two_faults_at_once(self):
        self.assertEqual(look([1, 1, 1, 0, 8]), [-2])
        self.assertEqual(look([65, 0, 9]), [-2])
        self.assertEqual(look([1, 1, 1, 65, 1, 0, 0]), [-2])


class TheLists(HandedIn, unittest.TestCase):
    FUNCTION = look
    CALLS = [(PLAIN,), ([1, 1, 0, 0],), (longest(),), ([],), ([0] * 16400,), ([1],), (PLAIN + [0],),
             ([1, 1, 1, 65, 1, 0],)]


if __name__ == "__main__":
    unittest.main()
