"""Promise 3: follow."""

import itertools
import random
import unittest

from runpictures.squares import follow, line
from tests.helper import HandedIn, dice_cells, dice_picture, dice_puzzle, lines_allowed, lines_of, longest, pairs_of
from tests.helper import puzzle_of, runs_of, told

# One square coloured in each of two rows and columns: nothing follows.
EITHER = told([[(1, 1)], [(1, 1)]], [[(1, 1)], [(1, 1)]])


def stairs(height):
    """A picture of steps, two squares in each row: nothing follows till one square is known, then all."""
    return [[1 if column in (row, row + 1) else 0 for column in range(height + 1)] for row in range(height)]


def once_over(puzzle, cells):
    """Every line in turn, once, by line itself; None if one of them never fits."""
    cells = list(cells)
    for runs, places in lines_of(puzzle):
        answer = line(runs, [cells[at] for at in places])
        if answer == [-3]:
            return None
        for at, cell in zip(places, answer[2:]):
            cells[at] = cell
    return cells


def fits_alone(puzzle, cells):
    """Whether each line fits for itself, as the cells are handed in."""
    return all(line(runs, [cells[at] for at in places])[0] >= 0 for runs, places in lines_of(puzzle))


def by_search(puzzle, cells):
    """What follow must answer, found by listing all the lines that the cells allow, again and again."""
    size = puzzle[0] * puzzle[1]
    found = list(cells)
    lines = lines_of(puzzle)
    before = None
    while found != before:
        before = list(found)
        # From the last line to the first: the order is no matter.
        for runs, places in reversed(lines):
            fitting = [squares for squares in lines_allowed([found[at] for at in places]) if runs_of(squares) == runs]
            if not fitting:
                return [-3]
            for at, squares in zip(places, zip(*fitting)):
                found[at] = sum(1 << square for square in set(squares))
    sure = sum(1 for cell in found[:size] if bin(cell).count("1") == 1)
    return [sure, len(found)] + found


def bytes_16384():
    """A picture whose puzzle is of 16384 bytes: stripes of seven colours, some blanks, one square like another."""
    rows = [[(row + column) % 7 + 1 for column in range(64)] for row in range(64)]
    for row in range(32):
        rows[2 * row][(5 * row) % 64] = 0
    rows[63][62] = rows[63][63]
    return rows


class Ordinary(unittest.TestCase):
    def test_all_follows(self):
        rows = [[1, 1, 1], [0, 1, 0]]
        self.assertEqual(follow(puzzle_of(rows), [3] * 6), [6, 6, 2, 2, 2, 1, 2, 1])

    def test_some_follows(self):
        puzzle = told([[(2, 1)], [(1, 1)]], [[(1, 1)], [(1, 1)], [(1, 1)]])
        self.assertEqual(follow(puzzle, [3] * 6), [2, 6, 3, 2, 3, 3, 1, 3])

    def test_nothing_follows(self):
        self.assertEqual(follow(EITHER, [3] * 4), [0, 4, 3, 3, 3, 3])

    def test_only_colours_that_are_not_told_go(self):
        self.assertEqual(follow(EITHER, [255] * 4), [0, 4, 3, 3, 3, 3])

    def test_one_cell_decides(self):
        self.assertEqual(follow(EITHER, [2, 3, 3, 3]), [4, 4, 2, 1, 1, 2])
        self.assertEqual(follow(EITHER, [3, 3, 1, 3]), [4, 4, 2, 1, 1, 2])
        self.assertEqual(follow(EITHER, [3, 2, 3, 3]), [4, 4, 1, 2, 2, 1])

    def test_nothing_changes_where_all_is_known(self):
        self.assertEqual(follow(EITHER, [2, 1, 1, 2]), [4, 4, 2, 1, 1, 2])

    def test_what_rows_alone_say_and_what_columns_alone_say(self):
        self.assertEqual(follow(told([[(3, 1)], []], [[(1, 1)]] * 3), [3] * 6), [6, 6, 2, 2, 2, 1, 1, 1])
        self.assertEqual(follow(told([[(1, 1)]] * 3, [[(3, 1)], []]), [3] * 6), [6, 6, 2, 1, 2, 1, 2, 1])

    def test_several_colours(self):
        rows = [[1, 2, 0], [0, 2, 7], [3, 3, 7]]
        self.assertEqual(follow(puzzle_of(rows), [255] * 9), [9, 9, 2, 4, 1, 1, 4, 128, 8, 8, 128])

    def test_several_colours_of_which_not_all_follows(self):
        puzzle = told([[(1, 1), (1, 2)], [(1, 1), (1, 2)]], [[(1, 1)], [(1, 1), (1, 2)], [(1, 2)]])
        self.assertEqual(follow(puzzle, [255] * 6), [6, 6, 1, 2, 4, 2, 4, 1])
        puzzle = told([[(1, 1)], [(1, 2)]], [[(1, 1)], [(1, 2)]])
        self.assertEqual(follow(puzzle, [255] * 4), [4, 4, 2, 1, 1, 4])
        puzzle = told([[(1, 5)], [(1, 5)], [(1, 6)]], [[(1, 5)], [(1, 5)], [(1, 6)]])
        self.assertEqual(follow(puzzle, [255] * 9), [5, 9, 33, 33, 1, 33, 33, 1, 1, 1, 64])

    def test_rows_and_columns_in_turn(self):
        rows = [[1, 0, 1, 1], [1, 1, 0, 0], [0, 1, 1, 1]]
        puzzle = puzzle_of(rows)
        self.assertEqual(follow(puzzle, [3] * 12), [12, 12] + [1 + square for row in rows for square in row])

    def test_one_pass_is_not_enough(self):
        for height in (4, 8, 20, 63):
            rows = stairs(height)
            puzzle = puzzle_of(rows)
            cells = [3] * ((height + 1) * height)
            self.assertEqual(follow(puzzle, cells), [0, len(cells)] + cells)
            cells[-1] = 2
            solved = [1 + square for row in rows for square in row]
            self.assertNotEqual(once_over(puzzle, cells), solved)
            self.assertEqual(follow(puzzle, cells), [len(cells), len(cells)] + solved)
            cells[-1] = 3
            cells[0] = 2
            self.assertEqual(follow(puzzle, cells), [len(cells), len(cells)] + solved)

    def test_it_ends_only_when_no_line_changes_a_cell(self):
        dice = random.Random(11)
        more_than_once = 0
        for turn in range(60):
            rows = dice_picture(dice, 12, 9, [1, 2], 60)
            puzzle = puzzle_of(rows)
            found = follow(puzzle, [7] * 108)[2:]
            self.assertEqual(once_over(puzzle, found), found)
            more_than_once += once_over(puzzle, [7] * 108) != found
        self.assertGreater(more_than_once, 20)

    def test_the_picture_told_is_never_ruled_out(self):
        dice = random.Random(12)
        for turn in range(40):
            width = dice.randint(1, 30)
            height = dice.randint(1, 30)
            rows = dice_picture(dice, width, height, [1, 3, 7], dice.choice([20, 50, 80]))
            found = follow(puzzle_of(rows), [255] * (width * height))
            squares = [square for row in rows for square in row]
            self.assertTrue(all(cell >> square & 1 for cell, square in zip(found[2:], squares)))


class AgainstSearch(unittest.TestCase):
    def test_all_puzzles_of_two_by_two(self):
        for rows in itertools.product(itertools.product(range(3), repeat=2), repeat=2):
            puzzle = puzzle_of(rows)
            for cells in itertools.product((1, 2, 3, 6, 7), repeat=4):
                self.assertEqual(follow(puzzle, list(cells)), by_search(puzzle, cells), (puzzle, cells))

    def test_small_puzzles(self):
        dice = random.Random(13)
        refused = 0
        for turn in range(1500):
            puzzle, cells = dice_puzzle(dice, 5, [20, 40, 60, 80])
            answer = by_search(puzzle, cells)
            refused += answer == [-3]
            self.assertEqual(follow(puzzle, cells), answer, (puzzle, cells))
        self.assertTrue(100 < refused < 900, refused)

    def test_rows_of_one_picture_and_columns_of_another(self):
        dice = random.Random(14)
        refused = 0
        for turn in range(600):
            width = dice.randint(2, 5)
            height = dice.randint(2, 5)
            one = [pairs_of(row) for row in dice_picture(dice, width, height, [1, 2], 40)]
            other = [pairs_of(column) for column in zip(*dice_picture(dice, width, height, [1, 2], 40))]
            puzzle = told(one, other)
            answer = by_search(puzzle, [7] * (width * height))
            refused += answer == [-3]
            self.assertEqual(follow(puzzle, [7] * (width * height)), answer, puzzle)
        self.assertTrue(100 < refused < 590, refused)

    def test_one_long_side(self):
        dice = random.Random(15)
        for turn in range(60):
            long = dice.randint(6, 9)
            short = dice.randint(1, 3)
            for width, height in ((long, short), (short, long)):
                rows = dice_picture(dice, width, height, [4], dice.choice([30, 50, 70]))
                cells = dice_cells(dice, [square for row in rows for square in row], [4])
                self.assertEqual(follow(puzzle_of(rows), cells), by_search(puzzle_of(rows), cells), (rows, cells))


class TheAnswer(unittest.TestCase):
    def test_how_many_then_the_number_of_all_cells_then_the_cells(self):
        puzzle = told([[(2, 1)]], [[(1, 1)], [(1, 1)], []])
        self.assertEqual(follow(puzzle, [3, 3, 3]), [3, 3, 2, 2, 1])
        self.assertEqual(follow(puzzle, [3, 3, 3, 9, 8]), [3, 5, 2, 2, 1, 9, 8])

    def test_those_behind_stay_whatever_they_are(self):
        for behind in ([0], [1], [255], [0, 0, 0], [3, 2, 1, 0, 128, 7], list(range(256))):
            self.assertEqual(follow(EITHER, [255] * 4 + behind), [0, 4 + len(behind), 3, 3, 3, 3] + behind)
            self.assertEqual(follow(EITHER, [2, 3, 3, 3] + behind), [4, 4 + len(behind), 2, 1, 1, 2] + behind)

    def test_those_behind_are_not_counted(self):
        self.assertEqual(follow(EITHER, [3] * 4 + [1, 2, 4, 128]), [0, 8, 3, 3, 3, 3, 1, 2, 4, 128])
        self.assertEqual(follow([1, 1, 0, 0], [255, 64]), [1, 2, 1, 64])

    def test_every_bit_alone_counts(self):
        for colour in range(1, 8):
            puzzle = told([[(1, colour)], []], [[(1, colour)]])
            self.assertEqual(follow(puzzle, [255, 255]), [2, 2, 1 << colour, 1])


class NoneFits(unittest.TestCase):
    def test_a_row_that_never_fits(self):
        self.assertEqual(follow(told([[(3, 1)], []], [[], []]), [3] * 4), [-3])
        self.assertEqual(follow(told([[], [(1, 1)]], [[], []]), [3, 3, 1, 1]), [-3])

    def test_a_column_that_never_fits(self):
        self.assertEqual(follow(told([[], []], [[], [(3, 1)]]), [3] * 4), [-3])
        self.assertEqual(follow(told([[(1, 1)], [(1, 1)]], [[(2, 1)], []]), [3, 2, 3, 3]), [-3])

    def test_a_colour_that_no_cell_allows(self):
        self.assertEqual(follow(told([[(1, 2)]], [[(1, 2)]]), [3]), [-3])

    def test_it_shows_only_on_the_way(self):
        for puzzle, cells in (
            (told([[(1, 1)], []], [[(2, 1)], []]), [3] * 4),
            (told([[(2, 1)], []], [[(1, 1)], []]), [3] * 4),
            (told([[(1, 1)]], [[(1, 2)]]), [255]),
            (told([[], [(1, 4)]], [[], []]), [17] * 4),
            (EITHER, [2, 3, 3, 1]),
        ):
            self.assertTrue(fits_alone(puzzle, cells), (puzzle, cells))
            self.assertEqual(follow(puzzle, cells), [-3], (puzzle, cells))

    def test_it_shows_only_at_the_end_of_a_long_way(self):
        for height in (3, 10, 40, 63):
            puzzle = puzzle_of(stairs(height))
            cells = [3] * ((height + 1) * height)
            cells[0] = 2
            cells[-1] = 1
            self.assertTrue(fits_alone(puzzle, cells))
            self.assertEqual(follow(puzzle, cells), [-3])

    def test_more_runs_than_a_line_can_hold(self):
        for runs in (2, 64, 65, 255):
            self.assertEqual(follow(told([[(1, 1)] * runs], [[(1, 1)]]), [255]), [-3])
            self.assertEqual(follow(told([[(1, 1)]], [[(1, 1)] * runs]), [255]), [-3])
        self.assertEqual(follow(told([[(64, 7)] * 126] * 64, [[]] * 64), [255] * 4096), [-3])

    def test_a_puzzle_that_no_picture_fits_need_not_show(self):
        # The rows colour four squares and the columns five, but each line by itself sees nothing wrong.
        puzzle = told([[(1, 1)]] * 4, [[(1, 1)]] * 5)
        self.assertEqual(follow(puzzle, [3] * 20), [0, 20] + [3] * 20)


class Edges(unittest.TestCase):
    def test_sides_of_1_and_64_with_no_run(self):
        for width in (1, 64):
            for height in (1, 64):
                size = width * height
                puzzle = [width, height] + [0] * (width + height)
                self.assertEqual(follow(puzzle, [255] * size), [size, size] + [1] * size)
                self.assertEqual(follow(puzzle, [1] * size), [size, size] + [1] * size)
                self.assertEqual(follow(puzzle, [255] * (size - 1) + [254]), [-3])
                self.assertEqual(follow(puzzle, [254] + [255] * (size - 1)), [-3])

    def test_sides_of_1_and_64_filled(self):
        for width in (1, 64):
            for height in (1, 64):
                size = width * height
                puzzle = puzzle_of([[7] * width] * height)
                self.assertEqual(follow(puzzle, [255] * size), [size, size] + [128] * size)
                self.assertEqual(follow(puzzle, [127] + [255] * (size - 1)), [-3])
                self.assertEqual(follow(puzzle, [255] * (size - 1) + [127]), [-3])

    def test_one_row_and_one_column_of_64(self):
        squares = [0, 1, 1, 2, 0, 3, 3, 3] * 8
        cells = [1 << square for square in squares]
        self.assertEqual(follow(puzzle_of([squares]), [255] * 64), [64, 64] + cells)
        self.assertEqual(follow(puzzle_of([[square] for square in squares]), [255] * 64), [64, 64] + cells)

    def test_one_square(self):
        self.assertEqual(follow([1, 1, 0, 0], [255]), [1, 1, 1])
        self.assertEqual(follow([1, 1, 1, 1, 7, 1, 1, 7], [255]), [1, 1, 128])
        self.assertEqual(follow([1, 1, 1, 1, 7, 0], [255]), [-3])
        self.assertEqual(follow([1, 1, 0, 1, 1, 7], [255]), [-3])

    def test_as_many_cells_as_squares_and_one_less(self):
        self.assertEqual(follow(EITHER, [3] * 4)[0], 0)
        self.assertEqual(follow(EITHER, [3] * 3), [-5])
        puzzle = [64, 64] + [0] * 128
        self.assertEqual(follow(puzzle, [3] * 4096)[0], 4096)
        self.assertEqual(follow(puzzle, [3] * 4095), [-5])
        puzzle = [64, 2] + [0] * 66
        self.assertEqual(follow(puzzle, [3] * 128)[0], 128)
        self.assertEqual(follow(puzzle, [3] * 127), [-5])

    def test_no_cell(self):
        self.assertEqual(follow(EITHER, []), [-5])
        self.assertEqual(follow([1, 1, 0, 0], []), [-5])

    def test_as_many_cells_as_there_may_be(self):
        behind = [at % 256 for at in range(16380)]
        self.assertEqual(follow(EITHER, [3] * 4 + behind), [0, 16384, 3, 3, 3, 3] + behind)
        self.assertEqual(follow(EITHER, [3] * 4 + behind + [1]), [-1])
        self.assertEqual(follow(EITHER, [3] * 16400), [-1])
        puzzle = [64, 64] + [0] * 128
        self.assertEqual(follow(puzzle, [255] * 16384), [4096, 16384] + [1] * 4096 + [255] * 12288)

    def test_the_longest_puzzle(self):
        rows = bytes_16384()
        puzzle = puzzle_of(rows)
        self.assertEqual(len(puzzle), 16384)
        found = follow(puzzle, [255] * 4096)
        self.assertEqual(found[1], 4096)
        self.assertGreater(found[0], 3000)
        self.assertEqual(found[2:], once_over(puzzle, found[2:]))
        self.assertEqual(follow(longest(), [255] * 4096), [-3])

    def test_more_squares_than_a_picture_is_searched_for(self):
        puzzle = puzzle_of([[1] * 29] * 5)
        self.assertEqual(follow(puzzle, [3] * 145), [145, 145] + [2] * 145)


class Refusals(unittest.TestCase):
    def test_how_many_bytes_the_puzzle_has(self):
        self.assertEqual(follow([], [3] * 4), [-1])
        self.assertEqual(follow([1] * 16385, [3] * 4), [-1])
        self.assertEqual(follow([1] * 16400, [3] * 4), [-1])
        self.assertEqual(follow([1] * 16384, [3] * 4), [-2])
        self.assertEqual(follow([1], [3] * 4), [-2])

    def test_a_puzzle_that_is_not_as_told(self):
        for puzzle in ([0, 1, 0], [1, 0, 0], [65, 1] + [0] * 66, [1, 65] + [0] * 66, [1, 1, 0], [1, 1, 0, 0, 0],
                       [1, 1, 1, 0, 1, 0], [1, 1, 1, 65, 1, 0], [1, 1, 0, 1, 1, 0], [1, 1, 0, 1, 1, 8],
                       [1, 1, 0, 1, 1], EITHER[:-1], EITHER + [0]):
            self.assertEqual(follow(puzzle, [3] * 4096), [-2], puzzle)

    def test_a_cell_without_a_bit(self):
        for at in range(4):
            cells = [3] * 4
            cells[at] = 0
            self.assertEqual(follow(EITHER, cells), [-2])
            self.assertEqual(follow(EITHER, cells + [3]), [-2])
        self.assertEqual(follow([64, 64] + [0] * 128, [255] * 4095 + [0]), [-2])

    def test_a_cell_without_a_bit_behind_is_no_fault(self):
        self.assertEqual(follow(EITHER, [3] * 4 + [0]), [0, 5, 3, 3, 3, 3, 0])

    def test_how_many_comes_before_a_puzzle_that_is_not_as_told(self):
        self.assertEqual(follow([0, 0], [3] * 16385), [-1])
        self.assertEqual(follow([255] * 16385, []), [-1])
        self.assertEqual(follow([], []), [-1])
        self.assertEqual(follow([], [0]), [-1])
        self.assertEqual(follow([1, 1, 0, 0], [0] * 16385), [-1])

    def test_a_puzzle_that_is_not_as_told_comes_before_too_few_cells(self):
        self.assertEqual(follow([0, 0], []), [-2])
        self.assertEqual(follow(EITHER + [0], [3]), [-2])
        self.assertEqual(follow([1, 1, 1, 1, 8, 0], []), [-2])

    def test_too_few_cells_come_before_cells_that_are_not_as_told(self):
        self.assertEqual(follow(EITHER, [0] * 3), [-5])
        self.assertEqual(follow(EITHER, [3, 0]), [-5])

    def test_too_few_cells_come_before_none_fits(self):
        self.assertEqual(follow([1, 1, 1, 2, 1, 0], []), [-5])

    def test_cells_that_are_not_as_told_come_before_none_fits(self):
        self.assertEqual(follow([1, 1, 1, 2, 1, 0], [0]), [-2])
        self.assertEqual(follow(told([[(3, 1)], []], [[], []]), [3, 3, 3, 0]), [-2])


class TheLists(HandedIn, unittest.TestCase):
    FUNCTION = follow
    CALLS = [
        (EITHER, [3] * 4),
        (EITHER, [2, 3, 3, 255, 0, 7]),
        (puzzle_of(stairs(9)), [2] + [3] * 89),
        (puzzle_of(stairs(9)), [2] + [3] * 88 + [1]),
        ([1, 1, 0, 0], [255, 0]),
        ([1, 1, 1, 2, 1, 0], [255]),
        ([], []),
        ([0], [3]),
        (EITHER, [3]),
        (EITHER, [3, 0, 3, 3]),
    ]


if __name__ == "__main__":
    unittest.main()
