"""Promise 1: line."""

import itertools
import math
import random
import unittest

from runpictures.squares import line
from tests.helper import HandedIn, lines_allowed, runs_of


def answers_by_listing(cells):
    """For each runs that some allowed line has: what line must answer."""
    seen = {}
    for squares in lines_allowed(cells):
        seen.setdefault(tuple(runs_of(squares)), []).append(squares)
    answers = {}
    for runs, lines in seen.items():
        found = [0] * len(cells)
        for squares in lines:
            found = [cell | 1 << square for cell, square in zip(found, squares)]
        answers[runs] = [int(found != list(cells)), len(cells)] + found + [1, len(lines)]
    return answers


class Ordinary(unittest.TestCase):
    def test_a_cell_changes(self):
        self.assertEqual(line([3, 1], [3, 3, 3, 3]), [1, 4, 3, 2, 2, 3, 1, 2])

    def test_no_cell_changes(self):
        self.assertEqual(line([1, 1], [3, 3, 3]), [0, 3, 3, 3, 3, 1, 3])
        self.assertEqual(line([3, 1], [3, 2, 2, 3]), [0, 4, 3, 2, 2, 3, 1, 2])

    def test_one_line_fits(self):
        self.assertEqual(line([2, 1, 1, 1], [3, 3, 3, 3]), [1, 4, 2, 2, 1, 2, 1, 1])

    def test_a_cell_loses_a_colour_that_no_run_has(self):
        self.assertEqual(line([1, 1], [7, 7]), [1, 2, 3, 3, 1, 2])

    def test_runs_of_one_colour_have_blanks_between(self):
        self.assertEqual(line([1, 1, 1, 1], [3, 3]), [-3])
        self.assertEqual(line([1, 1, 1, 1], [3, 3, 3]), [1, 3, 2, 1, 2, 1, 1])
        self.assertEqual(line([1, 1, 1, 1], [3, 2, 3]), [-3])

    def test_more_than_one_blank_may_lie_between(self):
        self.assertEqual(line([1, 1, 1, 1], [2, 3, 3, 2]), [1, 4, 2, 1, 1, 2, 1, 1])

    def test_runs_of_different_colours_may_touch(self):
        self.assertEqual(line([1, 1, 1, 2], [7, 7]), [1, 2, 2, 4, 1, 1])
        self.assertEqual(line([1, 1, 1, 2], [7, 7, 7]), [1, 3, 3, 7, 5, 1, 3])

    def test_runs_stand_in_the_order_told(self):
        self.assertEqual(line([2, 1, 1, 2], [7, 7, 7]), [1, 3, 2, 2, 4, 1, 1])
        self.assertEqual(line([1, 2, 2, 1], [7, 7, 7]), [1, 3, 4, 2, 2, 1, 1])

    def test_a_colour_may_come_again_behind_another(self):
        self.assertEqual(line([1, 1, 1, 2, 1, 1], [7, 7, 7]), [1, 3, 2, 4, 2, 1, 1])

    def test_a_square_that_must_be_coloured(self):
        self.assertEqual(line([2, 1], [3, 3, 2, 3, 3]), [1, 5, 1, 3, 2, 3, 1, 1, 2])

    def test_a_square_that_must_be_blank(self):
        self.assertEqual(line([2, 1], [3, 1, 3, 3, 3]), [1, 5, 1, 1, 3, 2, 3, 1, 2])


class AgainstListing(unittest.TestCase):
    def compare(self, cells, tellings):
        answers = answers_by_listing(cells)
        for runs in tellings:
            expected = answers.get(tuple(runs), [-3])
            self.assertEqual(line(list(runs), list(cells)), expected, (runs, cells))

    def test_all_short_lines_of_two_colours(self):
        for size in (1, 2, 3):
            tellings = {tuple(runs_of(squares)) for squares in itertools.product(range(3), repeat=size + 1)}
            for cells in itertools.product(range(1, 8), repeat=size):
                self.compare(cells, tellings)

    def test_all_lines_of_one_colour(self):
        tellings = {tuple(runs_of(squares)) for squares in itertools.product(range(2), repeat=7)}
        for cells in itertools.product((1, 2, 3), repeat=6):
            self.compare(cells, tellings)

    def test_lines_of_four_and_five_cells(self):
        dice = random.Random(1)
        for size in (4, 5):
            tellings = {tuple(runs_of(squares)) for squares in itertools.product(range(4), repeat=size)}
            for turn in range(30):
                self.compare([dice.randint(1, 15) for at in range(size)], tellings)

    def test_longer_lines_in_few_colours(self):
        dice = random.Random(2)
        for turn in range(60):
            colours = dice.sample(range(1, 8), 2)
            bits = [1, 1 << colours[0], 1 << colours[1]]
            cells = [dice.choice([bits[0] | bits[1] | bits[2], bits[0] | bits[1], bits[0] | bits[2], dice.choice(bits)])
                     for at in range(10)]
            tellings = {tuple(runs_of([dice.choice([0, 0] + colours) for at in range(10)])) for telling in range(10)}
            self.compare(cells, list(tellings) + list(answers_by_listing(cells))[:10])

    def test_all_colours(self):
        dice = random.Random(3)
        for turn in range(8):
            cells = [dice.choice([255, 255, 254, dice.randint(1, 255)]) for at in range(4)]
            self.compare(cells, list(answers_by_listing(cells))[::5])


class Edges(unittest.TestCase):
    def test_no_run(self):
        self.assertEqual(line([], [1]), [0, 1, 1, 1, 1])
        self.assertEqual(line([], [255, 3, 1]), [1, 3, 1, 1, 1, 1, 1])
        self.assertEqual(line([], [3] * 64), [1, 64] + [1] * 64 + [1, 1])
        self.assertEqual(line([], [3, 2]), [-3])

    def test_one_cell(self):
        for colour in range(1, 8):
            bit = 1 << colour
            self.assertEqual(line([1, colour], [bit]), [0, 1, bit, 1, 1])
            self.assertEqual(line([1, colour], [255]), [1, 1, bit, 1, 1])
            self.assertEqual(line([1, colour], [255 - bit]), [-3])
            self.assertEqual(line([2, colour], [255]), [-3])

    def test_lengths_1_and_64_of_colours_1_and_7_in_64_cells(self):
        for colour in (1, 7):
            bit = 1 << colour
            self.assertEqual(line([64, colour], [255] * 64), [1, 64] + [bit] * 64 + [1, 1])
            self.assertEqual(line([1, colour], [bit | 1] * 64), [0, 64] + [bit | 1] * 64 + [1, 64])
            self.assertEqual(line([63, colour], [255] * 64), [1, 64, bit | 1] + [bit] * 62 + [bit | 1, 1, 2])
            self.assertEqual(line([64, colour], [255] * 63), [-3])

    def test_64_runs(self):
        runs = [1, 1, 1, 7] * 32
        self.assertEqual(line(runs, [255] * 64), [1, 64] + [2, 128] * 32 + [1, 1])
        self.assertEqual(line(runs, [2, 128] * 32), [0, 64] + [2, 128] * 32 + [1, 1])
        self.assertEqual(line(runs, [255] * 63), [-3])
        self.assertEqual(line([1, 1] * 64, [255] * 64), [-3])
        self.assertEqual(line([64, 7] * 64, [255] * 64), [-3])
        self.assertEqual(line([64, 7] * 64, [255]), [-3])

    def test_as_many_runs_of_one_colour_as_there_is_room_for(self):
        self.assertEqual(line([1, 4] * 32, [255] * 63), [1, 63] + [16, 1] * 31 + [16, 1, 1])

    def test_very_many_lines_of_different_colours_fit(self):
        self.assertEqual(line([1, 1, 1, 2] * 16, [7] * 64)[-2:], [1, math.comb(64, 32)])

    def test_very_many_lines_of_one_colour_fit(self):
        for runs in range(1, 22):
            answer = line([2, 5] * runs, [33] * 64)
            self.assertEqual(answer[-2:], [1, math.comb(64 - 2 * runs - (runs - 1) + runs, runs)])

    def test_the_cells_where_very_many_lines_fit(self):
        # 16 runs of each colour in turn: run j, from 0, lies at j to j + 32.
        cells = [1] * 64
        for run in range(32):
            for at in range(run, run + 33):
                cells[at] |= 4 if run % 2 else 2
        self.assertEqual(line([1, 1, 1, 2] * 16, [7] * 64), [1, 64] + cells + [1, math.comb(64, 32)])

    def test_the_number_is_neither_cut_nor_turned_below_0(self):
        self.assertGreater(line([1, 1, 1, 2] * 16, [7] * 64)[-1], 2 ** 60)


class NoneFits(unittest.TestCase):
    def test_none_fits(self):
        self.assertEqual(line([3, 1], [3, 3]), [-3])
        self.assertEqual(line([1, 1], [2, 2]), [-3])
        self.assertEqual(line([1, 2], [3, 3]), [-3])
        self.assertEqual(line([2, 1], [3, 1, 3]), [-3])
        self.assertEqual(line([1, 1, 1, 2], [5, 3]), [-3])


class Refusals(unittest.TestCase):
    def test_how_many_cells(self):
        self.assertEqual(line([], []), [-1])
        self.assertEqual(line([1, 1], [3] * 65), [-1])
        self.assertEqual(line([1, 1], [3] * 16400), [-1])
        self.assertEqual(line([1, 1], [3])[0], 1)
        self.assertEqual(line([1, 1], [3] * 64)[0], 0)

    def test_how_many_runs(self):
        self.assertEqual(line([1, 1, 1, 2] * 32 + [1, 1], [7] * 64), [-1])
        self.assertEqual(line([1, 1] * 8200, [7] * 64), [-1])
        self.assertEqual(line([1, 1, 1, 2] * 32, [7] * 64)[0], 1)

    def test_a_run_s_length(self):
        for length in (0, 65, 255):
            self.assertEqual(line([length, 1], [3] * 64), [-2])
            self.assertEqual(line([1, 1, length, 2], [7] * 64), [-2])
        for length in (1, 64):
            self.assertGreaterEqual(line([length, 1], [3] * 64)[0], 0)

    def test_a_run_s_colour(self):
        for colour in (0, 8, 255):
            self.assertEqual(line([1, colour], [255] * 64), [-2])
            self.assertEqual(line([1, 1, 1, colour], [255] * 64), [-2])
        for colour in (1, 7):
            self.assertGreaterEqual(line([1, colour], [255] * 64)[0], 0)

    def test_the_last_of_64_runs(self):
        for bad in ([0, 1], [65, 1], [1, 0], [1, 8]):
            self.assertEqual(line([1, 1, 1, 2] * 31 + [1, 1] + bad, [255] * 64), [-2])

    def test_a_cell_without_a_bit(self):
        self.assertEqual(line([], [0]), [-2])
        self.assertEqual(line([1, 1], [0, 3]), [-2])
        self.assertEqual(line([1, 1], [3] * 63 + [0]), [-2])
        self.assertEqual(line([1, 1], [1, 2, 255])[0], 1)

    def test_how_many_comes_before_what_they_are(self):
        self.assertEqual(line([0, 0], []), [-1])
        self.assertEqual(line([0, 0], [3] * 65), [-1])
        self.assertEqual(line([], [0] * 65), [-1])
        self.assertEqual(line([1, 8] * 65, [3]), [-1])
        self.assertEqual(line([1, 1] * 65, [0]), [-1])

    def test_what_they_are_comes_before_none_fits(self):
        self.assertEqual(line([9, 1, 1, 0], [3]), [-2])
        self.assertEqual(line([9, 1], [0]), [-2])
        self.assertEqual(line([0, 8], [0]), [-2])


class TheLists(HandedIn, unittest.TestCase):
    FUNCTION = line
    CALLS = [
        ([3, 1], [3, 3, 3, 3]),
        ([1, 1, 1, 2] * 16, [7] * 64),
        ([9, 1], [3]),
        ([0, 1], [3]),
        ([1, 1], [0]),
        ([1, 1], []),
    ]


if __name__ == "__main__":
    unittest.main()
