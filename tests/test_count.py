"""Promise 5: count."""

import itertools
import math
import random
import unittest

from runpictures.squares import count, follow, picture
from tests.helper import EITHER, HandedIn, RefusedSearches, by_search, dice_picture, dice_puzzle, long_puzzles
from tests.helper import mixed_puzzles, one_in_each, puzzle_of, shared_out, shuffled_puzzles, told

# As many squares by the rows as by the columns, ahead of every cut too, and yet no picture.
NONE = told([[(1, 6)], [(2, 6)], [(2, 6)], [(1, 6)]], [[(1, 6)]] * 2 + [[(1, 6), (1, 6)]] * 2)


def mosts(many):
    """What most may be for a puzzle of so many pictures: none, below, at and above their number, and the highest."""
    return [most for most in sorted({0, 1, many - 1, many, many + 1, 1000000}) if most >= 0]


class Ordinary(unittest.TestCase):
    def test_one_picture(self):
        self.assertEqual(count(puzzle_of([[1, 1, 1], [0, 1, 0]]), [3] * 6, 1000), [1])

    def test_two_pictures(self):
        self.assertEqual(count(EITHER, [3] * 4, 1000), [2])

    def test_no_picture(self):
        for most in (0, 1, 1000000):
            self.assertEqual(count(NONE, [65] * 16, most), [0])
            self.assertEqual(count(told([[(1, 1)]] * 4, [[(1, 1)]] * 5), [3] * 20, most), [0])

    def test_no_line_fits(self):
        for most in (0, 1, 1000000):
            self.assertEqual(count(told([[(3, 1)], []], [[], [(3, 1)]]), [3] * 4, most), [0])
            self.assertEqual(count(told([[(1, 1)]], [[(1, 2)]]), [255], most), [0])
            self.assertEqual(count(told([[(1, 1)] * 65], [[(1, 1)]]), [255], most), [0])

    def test_several_colours(self):
        self.assertEqual(count(puzzle_of([[1, 2, 0], [0, 2, 7], [3, 3, 7]]), [255] * 9, 10), [1])
        puzzle = told([[(1, 5)], [(1, 5)], [(1, 6)]], [[(1, 5)], [(1, 5)], [(1, 6)]])
        self.assertEqual(count(puzzle, [255] * 9, 10), [2])
        touching = told([[(1, 1), (1, 2)]] * 2, [[(1, 1)], [(1, 2)], [(1, 1)], [(1, 2)]])
        self.assertEqual(count(touching, [255] * 8, 10), [len(by_search(touching, [7] * 8))])

    def test_cells_rule_pictures_out(self):
        self.assertEqual(count(EITHER, [2, 3, 3, 3], 10), [1])
        self.assertEqual(count(EITHER, [3, 3, 3, 1], 10), [1])
        self.assertEqual(count(EITHER, [5, 255, 255, 255], 10), [1])
        self.assertEqual(count(EITHER, [2, 2, 3, 3], 10), [0])
        self.assertEqual(count(one_in_each(5), [3] * 24 + [2], 1000), [24])
        self.assertEqual(count(one_in_each(5), [3] * 24 + [1], 1000), [96])

    def test_the_answer_is_that_one_number(self):
        for most in (0, 1, 2, 3):
            answer = count(EITHER, [3] * 4, most)
            self.assertIs(type(answer), list)
            self.assertEqual([type(number) for number in answer], [int])


class HowMany(unittest.TestCase):
    def check(self, puzzle, cells, many):
        """Holds the count against the number of pictures, for each most around it."""
        for most in mosts(many):
            self.assertEqual(count(puzzle, cells, most), [min(most, many)], (puzzle, cells, most))
        return many

    def search(self, puzzle, cells):
        return self.check(puzzle, cells, len(by_search(puzzle, cells)))

    def test_all_puzzles_of_two_by_two(self):
        for rows in itertools.product(itertools.product(range(3), repeat=2), repeat=2):
            for cells in itertools.product((1, 3, 6, 7), repeat=4):
                self.search(puzzle_of(rows), list(cells))

    def test_all_puzzles_of_one_colour_and_three_by_three(self):
        for squares in itertools.product(range(2), repeat=9):
            self.search(puzzle_of([squares[:3], squares[3:6], squares[6:]]), [3] * 9)

    def test_small_puzzles(self):
        dice = random.Random(41)
        how_many = [self.search(*dice_puzzle(dice, 5, [10, 20, 35, 50, 70])) for turn in range(1200)]
        self.assertGreater(how_many.count(0), 80)
        self.assertGreater(how_many.count(1), 80)
        self.assertGreater(sum(1 for many in how_many if many > 1), 40)

    def test_rows_of_one_picture_and_columns_of_another(self):
        for puzzle, cells in mixed_puzzles(random.Random(42), 400):
            self.search(puzzle, cells)

    def test_columns_in_another_order(self):
        how_many = [self.search(puzzle, cells) for puzzle, cells in shuffled_puzzles(random.Random(43), 300)]
        self.assertGreater(how_many.count(0), 40)

    def test_one_long_side(self):
        for puzzle, cells in long_puzzles(random.Random(44), 30):
            self.search(puzzle, cells)

    def test_one_in_each(self):
        for side in range(1, 10):
            self.check(one_in_each(side), [3] * (side * side), math.factorial(side))

    def test_squares_shared_out(self):
        for lines, each in ((1, 0), (1, 1), (6, 3), (12, 5), (20, 10)):
            long, short = shared_out(lines, each)
            long[1] = [(1, 1)] * (lines - each)
            self.check(told(long, short), [3] * (4 * lines), math.comb(lines, each))
            self.check(told(short, long), [3] * (4 * lines), math.comb(lines, each))

    def test_more_than_a_million(self):
        for most in (0, 1, 2, 999999, 1000000):
            self.assertEqual(count(one_in_each(10), [3] * 100, most), [most])
            self.assertEqual(count(one_in_each(12), [255] * 144, most), [most])
            self.assertEqual(count(told(*shared_out(32, 16)), [3] * 128, most), [most])
            self.assertEqual(count(told(*reversed(shared_out(32, 16))), [3] * 128, most), [most])

    def test_some_hundred_thousand(self):
        for lines, each in ((22, 11), (21, 10), (23, 9)):
            long, short = shared_out(lines, each)
            long[1] = [(1, 1)] * (lines - each)
            self.check(told(long, short), [3] * (4 * lines), math.comb(lines, each))


class PictureAgrees(unittest.TestCase):
    def agree(self, puzzle, cells, most):
        """There is a picture for each k below the count, and none at the count, where that is below most."""
        many = count(puzzle, cells, most)[0]
        pictures = [picture(puzzle, cells, k) for k in range(many)]
        self.assertTrue(all(answer[0] == 0 for answer in pictures), (puzzle, cells))
        self.assertEqual(pictures, sorted(pictures))
        self.assertEqual(len({tuple(answer) for answer in pictures}), many)
        if many < most:
            self.assertEqual(picture(puzzle, cells, many), [-3], (puzzle, cells))
        return many

    def test_thrown_puzzles(self):
        dice = random.Random(45)
        how_many = [self.agree(*dice_puzzle(dice, 9, [10, 20, 35, 50]), 8) for turn in range(400)]
        self.assertGreater(how_many.count(0), 10)
        self.assertGreater(how_many.count(1), 10)
        self.assertGreater(how_many.count(8), 10)
        self.assertGreater(sum(1 for many in how_many if 1 < many < 8), 10)

    def test_the_last_one_alone(self):
        dice = random.Random(46)
        checked = 0
        for turn in range(60):
            width, height = dice.choice([(10, 8), (8, 10), (12, 12), (24, 3), (3, 24), (14, 10)])
            puzzle = puzzle_of(dice_picture(dice, width, height, [1, 2], 45))
            cells = [7] * (width * height)
            many = count(puzzle, cells, 5000)[0]
            if many < 5000:
                self.assertEqual(picture(puzzle, cells, many - 1)[0], 0)
                self.assertEqual(picture(puzzle, cells, many), [-3])
                checked += many > 1
        self.assertGreater(checked, 10)

    def test_a_count_of_one_where_every_cell_is_sure(self):
        dice = random.Random(47)
        for turn in range(60):
            puzzle = puzzle_of(dice_picture(dice, 9, 8, [1, 2], 60))
            if follow(puzzle, [7] * 72)[0] == 72:
                self.assertEqual(count(puzzle, [7] * 72, 1000000), [1])


class Edges(unittest.TestCase):
    def test_the_least_and_the_highest_most(self):
        self.assertEqual(count(EITHER, [3] * 4, 0), [0])
        self.assertEqual(count(EITHER, [3] * 4, 1000000), [2])
        self.assertEqual(count(one_in_each(12), [3] * 144, 0), [0])
        self.assertEqual(count(one_in_each(12), [3] * 144, 1000000), [1000000])

    def test_144_squares(self):
        for width, height in ((12, 12), (16, 9), (9, 16), (48, 3), (3, 48), (36, 4), (64, 2), (2, 64)):
            size = width * height
            self.assertEqual(count(puzzle_of([[4] * width] * height), [255] * size, 1000000), [1])

    def test_sides_of_1(self):
        self.assertEqual(count([1, 1, 0, 0], [255], 5), [1])
        self.assertEqual(count([1, 1, 1, 1, 7, 1, 1, 7], [255], 5), [1])
        self.assertEqual(count([1, 1, 1, 1, 7, 1, 1, 7], [127], 5), [0])
        self.assertEqual(count([1, 1, 1, 1, 7, 0], [255], 5), [0])
        squares = [0, 1, 1, 2, 0, 3, 3, 3] * 8
        self.assertEqual(count(puzzle_of([squares]), [255] * 64, 5), [1])
        self.assertEqual(count(puzzle_of([[square] for square in squares]), [255] * 64, 5), [1])

    def test_no_run(self):
        for width, height in ((1, 1), (64, 1), (1, 64), (12, 12), (64, 2)):
            size = width * height
            puzzle = [width, height] + [0] * (width + height)
            self.assertEqual(count(puzzle, [255] * size, 1000000), [1])
            self.assertEqual(count(puzzle, [255] * size, 0), [0])
            self.assertEqual(count(puzzle, [255] * (size - 1) + [254], 1000000), [0])

    def test_every_colour(self):
        for colour in range(1, 8):
            puzzle = told([[(1, colour)], [(1, colour)]], [[(1, colour)], [(1, colour)]])
            self.assertEqual(count(puzzle, [255] * 4, 9), [2])

    def test_cells_behind_are_no_matter(self):
        for behind in ([0], [1], [255], [0, 0, 0], [4, 2, 1, 0, 128, 7], list(range(256)), [0] * 16380):
            self.assertEqual(count(EITHER, [3] * 4 + behind, 9), [2])
            self.assertEqual(count(EITHER, [3] * 4 + behind, 1), [1])
        wide = told([[(1, 1)], [(1, 1)]], [[(1, 1)], [], [(1, 1)]])
        self.assertEqual(count(wide, [3] * 6 + [0, 2, 1], 9), [2])

    def test_as_many_cells_as_there_may_be(self):
        self.assertEqual(count(EITHER, [3] * 16384, 9), [2])


class Refusals(RefusedSearches, unittest.TestCase):
    FUNCTION = count


class TheLists(HandedIn, unittest.TestCase):
    FUNCTION = count
    ONE_NUMBER = True
    CALLS = [
        (EITHER, [3] * 4, 0),
        (EITHER, [3] * 4, 1),
        (EITHER, [3] * 4 + [0, 7], 2),
        (one_in_each(8), [255] * 64, 20000),
        (told(*shared_out(12, 6)), [3] * 48, 500),
        (NONE, [65] * 16, 7),
        ([1, 1, 0, 0], [255, 0], 1),
        ([1, 1, 1, 2, 1, 0], [255], 1),
        ([], [], 0),
        (EITHER, [3] * 4, -1),
        ([0], [3], 0),
        (EITHER, [3], 0),
        ([29, 5] + [0] * 34, [3] * 145, 0),
        (EITHER, [3, 0, 3, 3], 0),
    ]


if __name__ == "__main__":
    unittest.main()
