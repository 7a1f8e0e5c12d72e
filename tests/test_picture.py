"""Promise 4: picture."""

import itertools
import math
import random
import unittest

from runpictures.squares import follow, picture
from tests.helper import EITHER, HandedIn, RefusedSearches, by_search, dice_picture, dice_puzzle, fits, long_puzzles
from tests.helper import mixed_puzzles, one_in_each, puzzle_of, shared_out, shuffled_puzzles, told


def one_in_each_at(side, k):
    """The k-th of these pictures: as a blank is lower, the column furthest to the right comes first."""
    columns = list(range(side))[::-1]
    squares = []
    for row in range(side):
        which, k = divmod(k, math.factorial(side - 1 - row))
        column = columns.pop(which)
        squares += [1 if at == column else 0 for at in range(side)]
    return squares


def shared_out_at(lines, each, k):
    """The k-th picture of these: for each pair of squares whether the first of the two long lines has it."""
    squares = []
    for left in range(lines, 0, -1):
        without = math.comb(left - 1, each)
        if k < without:
            squares.append(0)
        else:
            squares.append(1)
            k -= without
            each -= 1
    return squares


class Ordinary(unittest.TestCase):
    def test_one_picture(self):
        puzzle = puzzle_of([[1, 1, 1], [0, 1, 0]])
        self.assertEqual(picture(puzzle, [3] * 6, 0), [0, 6, 1, 1, 1, 0, 1, 0])
        self.assertEqual(picture(puzzle, [3] * 6, 1), [-3])

    def test_two_pictures(self):
        self.assertEqual(picture(EITHER, [3] * 4, 0), [0, 4, 0, 1, 1, 0])
        self.assertEqual(picture(EITHER, [3] * 4, 1), [0, 4, 1, 0, 0, 1])
        self.assertEqual(picture(EITHER, [3] * 4, 2), [-3])

    def test_no_picture(self):
        puzzle = told([[(1, 1)]] * 4, [[(1, 1)]] * 5)
        self.assertEqual(follow(puzzle, [3] * 20)[0], 0)
        for k in (0, 1, 1000000):
            self.assertEqual(picture(puzzle, [3] * 20, k), [-3])

    def test_no_picture_though_rows_and_columns_colour_as_many(self):
        puzzle = told([[(1, 6)], [(2, 6)], [(2, 6)], [(1, 6)]], [[(1, 6)]] * 2 + [[(1, 6), (1, 6)]] * 2)
        self.assertEqual(follow(puzzle, [65] * 16), [0, 16] + [65] * 16)
        for k in (0, 1, 1000000):
            self.assertEqual(picture(puzzle, [65] * 16, k), [-3])

    def test_no_line_fits(self):
        self.assertEqual(picture(told([[(3, 1)], []], [[], [(3, 1)]]), [3] * 4, 0), [-3])
        self.assertEqual(picture(told([[(1, 1)]], [[(1, 2)]]), [255], 0), [-3])

    def test_several_colours(self):
        rows = [[1, 2, 0], [0, 2, 7], [3, 3, 7]]
        self.assertEqual(picture(puzzle_of(rows), [255] * 9, 0), [0, 9, 1, 2, 0, 0, 2, 7, 3, 3, 7])
        self.assertEqual(picture(puzzle_of(rows), [255] * 9, 1), [-3])

    def test_several_pictures_of_several_colours(self):
        puzzle = told([[(1, 5)], [(1, 5)], [(1, 6)]], [[(1, 5)], [(1, 5)], [(1, 6)]])
        self.assertEqual(picture(puzzle, [255] * 9, 0), [0, 9, 0, 5, 0, 5, 0, 0, 0, 0, 6])
        self.assertEqual(picture(puzzle, [255] * 9, 1), [0, 9, 5, 0, 0, 0, 5, 0, 0, 0, 6])
        self.assertEqual(picture(puzzle, [255] * 9, 2), [-3])

    def test_runs_of_different_colours_that_touch(self):
        rows = [[1, 2], [2, 1]]
        self.assertEqual(picture(puzzle_of(rows), [255] * 4, 0), [0, 4, 1, 2, 2, 1])

    def test_cells_rule_pictures_out(self):
        self.assertEqual(picture(EITHER, [2, 3, 3, 3], 0), [0, 4, 1, 0, 0, 1])
        self.assertEqual(picture(EITHER, [3, 3, 3, 1], 0), [0, 4, 0, 1, 1, 0])
        self.assertEqual(picture(EITHER, [3, 1, 3, 3], 1), [-3])
        self.assertEqual(picture(EITHER, [2, 2, 3, 3], 0), [-3])
        self.assertEqual(picture(EITHER, [5, 255, 255, 255], 0), [0, 4, 0, 1, 1, 0])
        self.assertEqual(picture(EITHER, [5, 255, 255, 255], 1), [-3])

    def test_a_picture_has_the_squares_that_follow(self):
        dice = random.Random(21)
        for turn in range(60):
            rows = dice_picture(dice, 9, 8, [1, 2], 55)
            puzzle = puzzle_of(rows)
            found = follow(puzzle, [7] * 72)[2:]
            squares = picture(puzzle, [7] * 72, 0)[2:]
            self.assertTrue(fits(puzzle, squares))
            self.assertTrue(all(cell >> square & 1 for cell, square in zip(found, squares)))


class TheOrder(unittest.TestCase):
    def test_the_lower_is_first(self):
        puzzle = told([[(1, 3)], [(1, 5)], [(1, 3)], [(1, 5)]], [[(1, 3), (1, 5)], [(1, 3), (1, 5)]])
        self.assertEqual(picture(puzzle, [255] * 8, 0), [0, 8, 0, 3, 0, 5, 3, 0, 5, 0])
        self.assertEqual(picture(puzzle, [255] * 8, 1), [0, 8, 3, 0, 5, 0, 0, 3, 0, 5])
        self.assertEqual(picture(puzzle, [255] * 8, 2), [-3])

    def test_the_first_square_decides_row_by_row(self):
        wide = told([[(1, 1)], [(1, 1)]], [[(1, 1)], [], [(1, 1)]])
        self.assertEqual(picture(wide, [3] * 6, 0), [0, 6, 0, 0, 1, 1, 0, 0])
        self.assertEqual(picture(wide, [3] * 6, 1), [0, 6, 1, 0, 0, 0, 0, 1])
        high = told([[(1, 1)], [], [(1, 1)]], [[(1, 1)], [(1, 1)]])
        self.assertEqual(picture(high, [3] * 6, 0), [0, 6, 0, 1, 0, 0, 1, 0])
        self.assertEqual(picture(high, [3] * 6, 1), [0, 6, 1, 0, 0, 0, 0, 1])

    def test_row_by_row_and_not_column_by_column(self):
        # Column by column the order of these would be another.
        puzzle = told([[(1, 1)], [(1, 1)], [(1, 1)]], [[(1, 1)], [(1, 1)], [(1, 1)]])
        pictures = [picture(puzzle, [3] * 9, k)[2:] for k in range(6)]
        self.assertEqual(pictures, by_search(puzzle, [3] * 9))
        columns = [[squares[at % 3 * 3 + at // 3] for at in range(9)] for squares in pictures]
        self.assertNotEqual(columns, sorted(columns))

    def test_pictures_one_behind_the_other(self):
        dice = random.Random(22)
        for turn in range(12):
            width, height = dice.choice([(12, 12), (16, 9), (9, 16), (48, 3), (3, 48), (24, 6)])
            puzzle = puzzle_of(dice_picture(dice, width, height, [1, 2], 30))
            before = []
            for k in (0, 1, 2, 50, 51, 1000):
                answer = picture(puzzle, [255] * (width * height), k)
                if answer == [-3]:
                    break
                self.assertTrue(fits(puzzle, answer[2:]))
                self.assertLess(before, answer[2:])
                before = answer[2:]


class AgainstSearch(unittest.TestCase):
    def compare(self, puzzle, cells):
        """Holds every picture of a puzzle, and the one that is one too many, against a plain search."""
        pictures = by_search(puzzle, cells)
        for k, squares in enumerate(pictures):
            self.assertEqual(picture(puzzle, cells, k), [0, len(squares)] + squares, (puzzle, cells, k))
        self.assertEqual(picture(puzzle, cells, len(pictures)), [-3], (puzzle, cells))
        self.assertEqual(picture(puzzle, cells, len(pictures) + 1), [-3], (puzzle, cells))
        return len(pictures)

    def test_all_puzzles_of_two_by_two(self):
        for rows in itertools.product(itertools.product(range(3), repeat=2), repeat=2):
            for cells in itertools.product((1, 3, 6, 7), repeat=4):
                self.compare(puzzle_of(rows), list(cells))

    def test_all_puzzles_of_one_colour_and_three_by_three(self):
        for squares in itertools.product(range(2), repeat=9):
            self.compare(puzzle_of([squares[:3], squares[3:6], squares[6:]]), [3] * 9)

    def test_small_puzzles(self):
        dice = random.Random(23)
        how_many = []
        for turn in range(1500):
            puzzle, cells = dice_puzzle(dice, 5, [15, 30, 50, 70])
            how_many.append(self.compare(puzzle, cells))
        self.assertGreater(how_many.count(0), 100)
        self.assertGreater(how_many.count(1), 100)
        self.assertGreater(sum(1 for many in how_many if many > 1), 50)

    def test_puzzles_of_many_pictures(self):
        for puzzle in (
            one_in_each(4),
            told([[(1, 1)]] * 3 + [[]], [[(1, 1)]] * 3 + [[]]),
            told([[(1, 1), (1, 2)], [(1, 1)], [(1, 2)], [(1, 1)]], [[(1, 1)], [(1, 1)], [(1, 1), (1, 2)], [(1, 2)]]),
            told([[(1, 1), (1, 1)]] * 2 + [[(1, 1)]] * 2, [[(1, 1)], [(1, 1), (1, 1)]] + [[(1, 1)]] * 3),
            told([[(1, 1)] * 3, [(1, 1)] * 3], [[(1, 1)]] * 6 + [[]]),
            told([[(1, 1)], [(1, 1)], [(1, 1)], [], [(1, 1)]], [[(1, 1)], [(1, 1), (1, 1)], [(1, 1)]]),
        ):
            self.compare(puzzle, [7] * (puzzle[0] * puzzle[1]))

    def test_rows_of_one_picture_and_columns_of_another(self):
        for puzzle, cells in mixed_puzzles(random.Random(24), 500):
            self.compare(puzzle, cells)

    def test_columns_in_another_order(self):
        how_many = [self.compare(puzzle, cells) for puzzle, cells in shuffled_puzzles(random.Random(25), 400)]
        self.assertGreater(how_many.count(0), 50)

    def test_one_long_side(self):
        for puzzle, cells in long_puzzles(random.Random(26), 40):
            self.compare(puzzle, cells)


class FarOn(unittest.TestCase):
    def test_all_of_one_in_each(self):
        for k in range(120):
            self.assertEqual(picture(one_in_each(5), [3] * 25, k), [0, 25] + one_in_each_at(5, k))
        self.assertEqual(picture(one_in_each(5), [3] * 25, 120), [-3])

    def test_the_last_and_one_more(self):
        for side in (7, 9):
            cells = [3] * (side * side)
            many = math.factorial(side)
            self.assertEqual(picture(one_in_each(side), cells, many - 1),
                             [0, side * side] + one_in_each_at(side, many - 1))
            self.assertEqual(picture(one_in_each(side), cells, many), [-3])
            self.assertEqual(picture(one_in_each(side), cells, 1000000), [-3])

    def test_144_squares(self):
        for k in (0, 1, 2, 1000, 123456, 999999, 1000000):
            self.assertEqual(picture(one_in_each(12), [255] * 144, k), [0, 144] + one_in_each_at(12, k))

    def test_a_wide_and_a_high_board(self):
        long, short = shared_out(32, 16)
        for k in (0, 1, 777, 999999, 1000000):
            has = shared_out_at(32, 16, k)
            wide = [square for has_it in has for square in (has_it, 0)]
            other = [square for has_it in has for square in (1 - has_it, 0)]
            self.assertEqual(picture(told(long, short), [3] * 128, k), [0, 128] + wide + other)
            high = [square for pair in zip(wide, other) for square in pair]
            self.assertEqual(picture(told(short, long), [3] * 128, k), [0, 128] + high)

    def test_the_last_of_a_wide_board(self):
        long, short = shared_out(20, 10)
        many = math.comb(20, 10)
        cells = [3] * 80
        self.assertEqual(picture(told(long, short), cells, many - 1)[2:42:2], [1] * 10 + [0] * 10)
        self.assertEqual(picture(told(long, short), cells, many), [-3])
        self.assertEqual(picture(told(short, long), cells, many - 1)[2:82:4], [1] * 10 + [0] * 10)
        self.assertEqual(picture(told(short, long), cells, many), [-3])

    def test_very_many_pictures_that_share_much(self):
        puzzle = told([[(1, 1)] * 3] * 12, [[(1, 1)] * 3] * 12)
        squares = picture(puzzle, [3] * 144, 1000000)[2:]
        self.assertTrue(fits(puzzle, squares))
        self.assertLess(picture(puzzle, [3] * 144, 999999)[2:], squares)


class NoMore(unittest.TestCase):
    def test_just_as_many_as_there_are(self):
        self.assertEqual(picture([1, 1, 0, 0], [3], 0), [0, 1, 0])
        self.assertEqual(picture([1, 1, 0, 0], [3], 1), [-3])
        self.assertEqual(picture(EITHER, [3] * 4, 1)[0], 0)
        self.assertEqual(picture(EITHER, [3] * 4, 2), [-3])
        self.assertEqual(picture(EITHER, [3] * 4, 3), [-3])
        self.assertEqual(picture(EITHER, [3] * 4, 1000000), [-3])

    def test_more_runs_than_a_line_can_hold(self):
        for runs in (2, 64, 65, 255):
            self.assertEqual(picture(told([[(1, 1)] * runs], [[(1, 1)]]), [255], 0), [-3])
            self.assertEqual(picture(told([[(1, 1)] * runs], [[(runs, 1)] if runs < 65 else [(1, 1)] * runs]),
                                     [255], 0), [-3])


class Edges(unittest.TestCase):
    def test_the_least_and_the_highest_k(self):
        self.assertEqual(picture(EITHER, [3] * 4, 0)[0], 0)
        self.assertEqual(picture(EITHER, [3] * 4, 1000000), [-3])
        self.assertEqual(picture(one_in_each(12), [3] * 144, 0)[0], 0)
        self.assertEqual(picture(one_in_each(12), [3] * 144, 1000000)[0], 0)

    def test_144_squares(self):
        for width, height in ((12, 12), (16, 9), (9, 16), (48, 3), (3, 48), (36, 4), (64, 2), (2, 64)):
            size = width * height
            puzzle = puzzle_of([[4] * width] * height)
            self.assertEqual(picture(puzzle, [255] * size, 0), [0, size] + [4] * size)
            self.assertEqual(picture(puzzle, [255] * size, 1), [-3])

    def test_sides_of_1(self):
        self.assertEqual(picture([1, 1, 0, 0], [255], 0), [0, 1, 0])
        self.assertEqual(picture([1, 1, 1, 1, 7, 1, 1, 7], [255], 0), [0, 1, 7])
        self.assertEqual(picture([1, 1, 1, 1, 7, 1, 1, 7], [127], 0), [-3])
        self.assertEqual(picture([1, 1, 1, 1, 7, 0], [255], 0), [-3])
        squares = [0, 1, 1, 2, 0, 3, 3, 3] * 8
        self.assertEqual(picture(puzzle_of([squares]), [255] * 64, 0), [0, 64] + squares)
        self.assertEqual(picture(puzzle_of([[square] for square in squares]), [255] * 64, 0), [0, 64] + squares)
        self.assertEqual(picture(puzzle_of([squares]), [255] * 64, 1), [-3])

    def test_no_run(self):
        for width, height in ((1, 1), (64, 1), (1, 64), (12, 12), (64, 2)):
            size = width * height
            puzzle = [width, height] + [0] * (width + height)
            self.assertEqual(picture(puzzle, [255] * size, 0), [0, size] + [0] * size)
            self.assertEqual(picture(puzzle, [255] * size, 1), [-3])
            self.assertEqual(picture(puzzle, [255] * (size - 1) + [254], 0), [-3])

    def test_every_colour(self):
        for colour in range(1, 8):
            puzzle = told([[(1, colour)], [(1, colour)]], [[(1, colour)], [(1, colour)]])
            self.assertEqual(picture(puzzle, [255] * 4, 0), [0, 4, 0, colour, colour, 0])
            self.assertEqual(picture(puzzle, [255] * 4, 1), [0, 4, colour, 0, 0, colour])

    def test_cells_behind_are_no_matter(self):
        for behind in ([0], [1], [255], [0, 0, 0], [4, 2, 1, 0, 128, 7], list(range(256)), [0] * 16380):
            self.assertEqual(picture(EITHER, [3] * 4 + behind, 0), [0, 4, 0, 1, 1, 0])
            self.assertEqual(picture(EITHER, [3] * 4 + behind, 1), [0, 4, 1, 0, 0, 1])
            self.assertEqual(picture(EITHER, [3] * 4 + behind, 2), [-3])
        wide = told([[(1, 1)], [(1, 1)]], [[(1, 1)], [], [(1, 1)]])
        self.assertEqual(picture(wide, [3] * 6 + [0, 2, 1], 1), [0, 6, 1, 0, 0, 0, 0, 1])

    def test_as_many_cells_as_there_may_be(self):
        self.assertEqual(picture(EITHER, [3] * 16384, 0), [0, 4, 0, 1, 1, 0])


class Refusals(RefusedSearches, unittest.TestCase):
    FUNCTION = picture


class TheLists(HandedIn, unittest.TestCase):
    FUNCTION = picture
    CALLS = [
        (EITHER, [3] * 4, 0),
        (EITHER, [3] * 4, 1),
        (EITHER, [3] * 4 + [0, 7], 2),
        (one_in_each(8), [255] * 64, 20000),
        (told(*shared_out(12, 6)), [3] * 48, 500),
        ([1, 1, 0, 0], [255, 0], 0),
        ([1, 1, 1, 2, 1, 0], [255], 0),
        ([], [], 0),
        (EITHER, [3] * 4, -1),
        ([0], [3], 0),
        (EITHER, [3], 0),
        ([29, 5] + [0] * 34, [3] * 145, 0),
        (EITHER, [3, 0, 3, 3], 0),
    ]


if __name__ == "__main__":
    unittest.main()
