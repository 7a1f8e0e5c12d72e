"""Promise 6: tell."""

import itertools
import random
import unittest

from runpictures.squares import count, look, picture, tell
from tests.helper import HandedIn, dice_picture, fits, puzzle_of


def flat(rows):
    return [square for row in rows for square in row]


def told_of(rows, most=16384):
    """What tell answers of a picture, given by its rows of squares."""
    return tell(flat(rows), [len(rows[0]), len(rows)], most)


def crowded(side, colours):
    """A picture in which each square is a run by itself, along its row and along its column."""
    return [[colours[(row + column) % len(colours)] for column in range(side)] for row in range(side)]


class Ordinary(unittest.TestCase):
    def check(self, rows, *puzzle):
        """Holds the answer against the puzzle, written out."""
        self.assertEqual(told_of(rows), [len(puzzle), len(puzzle)] + list(puzzle))

    def test_one_square(self):
        self.check([[0]], 1, 1, 0, 0)
        self.check([[1]], 1, 1, 1, 1, 1, 1, 1, 1)
        self.check([[7]], 1, 1, 1, 1, 7, 1, 1, 7)

    def test_rows_from_the_top_then_columns_from_the_left(self):
        self.check([[1, 2], [3, 4]], 2, 2, 2, 1, 1, 1, 2, 2, 1, 3, 1, 4, 2, 1, 1, 1, 3, 2, 1, 2, 1, 4)
        self.check([[1, 1, 0], [0, 1, 0]], 3, 2, 1, 2, 1, 1, 1, 1, 1, 1, 1, 1, 2, 1, 0)
        self.check([[1, 0], [1, 1], [0, 0]], 2, 3, 1, 1, 1, 1, 2, 1, 0, 1, 2, 1, 1, 1, 1)

    def test_the_width_comes_before_the_height(self):
        self.check([[5, 5, 5]], 3, 1, 1, 3, 5, 1, 1, 5, 1, 1, 5, 1, 1, 5)
        self.check([[5], [5], [5]], 1, 3, 1, 1, 5, 1, 1, 5, 1, 1, 5, 1, 3, 5)

    def test_runs_of_one_colour_with_blanks_between(self):
        self.check([[1, 0, 1]], 3, 1, 2, 1, 1, 1, 1, 1, 1, 1, 0, 1, 1, 1)
        self.check([[2, 2, 0, 0, 2]], 5, 1, 2, 2, 2, 1, 2, 1, 1, 2, 1, 1, 2, 0, 0, 1, 1, 2)
        self.check([[0], [3], [0], [0], [3], [3], [0]],
                   1, 7, 0, 1, 1, 3, 0, 0, 1, 1, 3, 1, 1, 3, 0, 2, 1, 3, 2, 3)

    def test_runs_of_other_colours_that_touch(self):
        self.check([[1, 2, 1]], 3, 1, 3, 1, 1, 1, 2, 1, 1, 1, 1, 1, 1, 1, 2, 1, 1, 1)
        self.check([[6, 6, 7, 7, 7, 0]],
                   6, 1, 2, 2, 6, 3, 7, 1, 1, 6, 1, 1, 6, 1, 1, 7, 1, 1, 7, 1, 1, 7, 0)

    def test_a_run_does_not_go_on_in_the_next_line(self):
        self.check([[0, 1], [1, 0]], 2, 2, 1, 1, 1, 1, 1, 1, 1, 1, 1, 1, 1, 1)
        self.check([[0, 4], [4, 4]], 2, 2, 1, 1, 4, 1, 2, 4, 1, 1, 4, 1, 2, 4)

    def test_pictures_thrown_with_dice(self):
        dice = random.Random(51)
        for turn in range(600):
            colours = dice.sample(range(1, 8), dice.randint(1, 7))
            rows = dice_picture(dice, dice.randint(1, 20), dice.randint(1, 20), colours, dice.choice([10, 50, 90, 100]))
            self.check(rows, *puzzle_of(rows))

    def test_all_pictures_of_two_by_three(self):
        for squares in itertools.product(range(3), repeat=6):
            self.check([squares[:2], squares[2:4], squares[4:]], *puzzle_of([squares[:2], squares[2:4], squares[4:]]))
            self.check([squares[:3], squares[3:]], *puzzle_of([squares[:3], squares[3:]]))


class WhatIsToldIsAPuzzle(unittest.TestCase):
    def test_look_takes_it(self):
        dice = random.Random(52)
        for turn in range(200):
            width = dice.choice([1, 2, 7, 33, 64])
            height = dice.choice([1, 2, 7, 33, 64])
            rows = dice_picture(dice, width, height, [1, 2, 7], dice.choice([5, 40, 80]))
            answer = told_of(rows)
            self.assertEqual(answer[0], answer[1])
            self.assertEqual(answer[0], len(answer) - 2)
            self.assertEqual(look(answer[2:]), [0, 3, width, height, 0])
            self.assertTrue(fits(answer[2:], flat(rows)))

    def test_the_picture_is_among_those_that_fit(self):
        dice = random.Random(53)
        for turn in range(150):
            width, height = dice.choice([(4, 5), (9, 7), (12, 12), (16, 9), (48, 3), (2, 64), (1, 40)])
            squares = flat(dice_picture(dice, width, height, [1, 2, 5], dice.choice([20, 50, 80])))
            puzzle = tell(squares, [width, height], 16384)[2:]
            alone = [1 << square for square in squares]
            self.assertEqual(count(puzzle, alone, 9), [1])
            self.assertEqual(picture(puzzle, alone, 0), [0, len(squares)] + squares)
            self.assertGreaterEqual(count(puzzle, [255] * len(squares), 9)[0], 1)

    def test_it_is_found_among_all(self):
        dice = random.Random(54)
        for turn in range(100):
            width, height = dice.choice([(4, 5), (9, 7), (7, 8), (20, 3)])
            squares = flat(dice_picture(dice, width, height, [1, 2], 55))
            puzzle = tell(squares, [width, height], 16384)[2:]
            cells = [255] * len(squares)
            many = count(puzzle, cells, 30)[0]
            if many < 30:
                self.assertIn([0, len(squares)] + squares, [picture(puzzle, cells, k) for k in range(many)])

    def test_what_is_told_of_a_picture_that_fits_is_the_puzzle(self):
        dice = random.Random(55)
        for turn in range(100):
            width, height = dice.choice([(4, 5), (9, 7), (12, 12), (20, 3)])
            puzzle = puzzle_of(dice_picture(dice, width, height, [1, 2], 40))
            squares = picture(puzzle, [255] * (width * height), 0)[2:]
            self.assertEqual(tell(squares, [width, height], 16384), [len(puzzle), len(puzzle)] + puzzle)


class Edges(unittest.TestCase):
    def test_sides_of_1_and_64(self):
        for width, height in ((1, 1), (64, 1), (1, 64), (64, 64), (63, 64), (64, 63)):
            rows = [[3] * width] * height
            puzzle = puzzle_of(rows)
            self.assertEqual(told_of(rows), [len(puzzle), len(puzzle)] + puzzle)

    def test_sides_one_beyond_and_far_beyond(self):
        for side in (0, 65, -1, -64, 256, -2147483648, 2147483647):
            for other in (1, 64, 0, 65, -2147483648, 2147483647):
                for most in (0, 100, 16384):
                    self.assertEqual(tell([], [side, other], most), [-1])
                    self.assertEqual(tell([], [other, side], most), [-1])

    def test_blanks_alone(self):
        for width, height in ((1, 1), (5, 3), (64, 1), (64, 64)):
            size = 2 + width + height
            self.assertEqual(tell([0] * (width * height), [width, height], 16384),
                             [size, size, width, height] + [0] * (width + height))

    def test_as_many_runs_as_there_can_be(self):
        for side in (2, 9, 63):
            rows = crowded(side, [1, 7])
            puzzle = puzzle_of(rows)
            self.assertEqual(len(puzzle), 2 + 2 * side * (1 + 2 * side))
            self.assertEqual(told_of(rows), [len(puzzle), len(puzzle)] + puzzle)
        squares = [1, 2] * 32
        self.assertEqual(tell(squares, [64, 1], 16384)[2:], puzzle_of([squares]))
        self.assertEqual(tell(squares, [64, 1], 16384)[4], 64)
        self.assertEqual(tell(squares, [1, 64], 16384)[2:], puzzle_of([[square] for square in squares]))

    def test_as_long_as_most_and_one_longer(self):
        for rows in ([[0]], [[1]], [[1, 2], [3, 4]], [[0] * 64] * 64, crowded(12, [3, 5]), crowded(63, [1, 2, 3])):
            puzzle = puzzle_of(rows)
            size = len(puzzle)
            self.assertEqual(told_of(rows, size), [size, size] + puzzle)
            self.assertEqual(told_of(rows, size + 1), [size, size] + puzzle)
            self.assertEqual(told_of(rows, size - 1), [-4])
            self.assertEqual(told_of(rows, 1), [-4])
            self.assertEqual(told_of(rows, 0), [-4])

    def test_the_least_and_the_highest_most(self):
        self.assertEqual(tell([0], [1, 1], 0), [-4])
        self.assertEqual(tell([0], [1, 1], 16384), [4, 4, 1, 1, 0, 0])
        for most in (-1, 16385, -2147483648, 2147483647):
            self.assertEqual(tell([0], [1, 1], most), [-1])

    def test_longer_than_any_puzzle(self):
        rows = crowded(64, [1, 2])
        self.assertEqual(len(puzzle_of(rows)), 16514)
        for most in (0, 16383, 16384):
            self.assertEqual(told_of(rows, most), [-4])

    def test_just_as_long_as_a_puzzle_may_be(self):
        # A square that joins its neighbour, or is blank, takes two bytes less along its row and its column.
        rows = crowded(64, [1, 2, 3, 4, 5, 6, 7])
        at = 0
        while len(puzzle_of(rows)) > 16384:
            rows[at // 64][at % 64] = 0
            at += 1
        self.assertIn(len(puzzle_of(rows)), (16382, 16384))
        self.assertEqual(told_of(rows)[0], len(puzzle_of(rows)))
        self.assertEqual(look(told_of(rows)[2:]), [0, 3, 64, 64, 0])
        rows[0][0] = 1 if rows[1][0] != 1 else 2
        self.assertGreater(len(puzzle_of(rows)), 16384)
        self.assertEqual(told_of(rows), [-4])


class Refusals(unittest.TestCase):
    def test_squares_above_7(self):
        for square in (8, 9, 16, 127, 128, 255):
            self.assertEqual(tell([square], [1, 1], 16384), [-2])
            for at in range(6):
                squares = [1, 0, 7, 2, 2, 0]
                squares[at] = square
                self.assertEqual(tell(squares, [2, 3], 16384), [-2])
                self.assertEqual(tell(squares, [3, 2], 16384), [-2])
        self.assertEqual(tell([0] * 4095 + [8], [64, 64], 16384), [-2])
        self.assertEqual(tell(list(range(8)), [4, 2], 16384)[0], len(puzzle_of([range(4), range(4, 8)])))

    def test_numbers_out_of_range_come_before_squares_above_7(self):
        self.assertEqual(tell([8], [1, 1], -1), [-1])
        self.assertEqual(tell([8], [1, 1], 16385), [-1])
        self.assertEqual(tell([255] * 4096, [64, 64], 16385), [-1])

    def test_numbers_out_of_range_come_before_too_long_a_puzzle(self):
        self.assertEqual(tell([], [0, 1], 0), [-1])
        self.assertEqual(tell(flat(crowded(64, [1, 2])), [64, 64], 16385), [-1])

    def test_squares_above_7_come_before_too_long_a_puzzle(self):
        for most in (0, 1, 3):
            self.assertEqual(tell([8], [1, 1], most), [-2])
        self.assertEqual(tell(flat(crowded(64, [1, 2]))[:-1] + [8], [64, 64], 16384), [-2])

    def test_other_than_w_h_squares(self):
        self.assertEqual(tell([1], [1, 2], 100), [-2])
        self.assertEqual(tell([1, 1, 1], [1, 2], 100), [-2])
        self.assertEqual(tell([], [1, 1], 100), [-2])


class TheLists(HandedIn, unittest.TestCase):
    FUNCTION = tell
    CALLS = [
        ([0], [1, 1], 4),
        ([1, 2, 0, 2], [2, 2], 16384),
        ([1, 0, 1, 1, 0, 3], [3, 2], 100),
        (flat(crowded(20, [4, 5])), [20, 20], 16384),
        ([1], [1, 1], 0),
        ([9], [1, 1], 16384),
        ([], [0, 65], 16384),
        ([0], [1, 1], 16385),
    ]


if __name__ == "__main__":
    unittest.main()
