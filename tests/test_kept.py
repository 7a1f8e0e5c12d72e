"""What a call keeps while it looks: never more than a bound, and whatever the bound, the answers are the same."""

import contextlib
import math
import random
import tracemalloc
import unittest
from unittest import mock

from runpictures import boards, pictures
from runpictures.squares import count, picture
from tests.helper import EITHER, by_search, dice_puzzle, one_in_each, puzzle_of, shared_out, shuffled_puzzles, told

# Nothing; nothing, as half of it is none; next to nothing; some; and all that these small puzzles find.
BOUNDS = (0, 1, 2, 3, 8, 60, 1000000)


def bound(counts, lines):
    return mock.patch.multiple(boards, MOST_COUNTS=counts, MOST_LINES=lines)


@contextlib.contextmanager
def sizes_seen():
    """How much each store holds whenever something is kept: lists of sizes, by the bound's half."""
    seen = {}
    keep = boards.keep

    def watched(store, key, value):
        keep(store, key, value)
        seen.setdefault(store["half"], []).append(len(store["young"]) + len(store["old"]))

    with mock.patch.object(boards, "keep", watched), mock.patch.object(pictures, "keep", watched):
        yield seen


def peak_of(puzzle, k):
    """How many bytes a call takes at the most beyond what was there before."""
    cells = [3] * (puzzle[0] * puzzle[1])
    tracemalloc.start()
    try:
        before = tracemalloc.get_traced_memory()[0]
        picture(puzzle, cells, k)
        return tracemalloc.get_traced_memory()[1] - before
    finally:
        tracemalloc.stop()


class WithinTheBound(unittest.TestCase):
    def look_through(self, counts, lines):
        """The sizes seen while all of a puzzle's pictures are counted, of the counts and of the lines."""
        with bound(counts, lines), sizes_seen() as seen:
            for puzzle in (one_in_each(6), told(*shared_out(12, 6))):
                cells = [3] * (puzzle[0] * puzzle[1])
                self.assertEqual(picture(puzzle, cells, 1000), [-3])
                self.assertLess(count(puzzle, cells, 1000)[0], 1000)
        return seen[counts // 2], seen[lines // 2]

    def test_what_is_kept_stays_within_the_bound(self):
        for counts, lines in ((2, 4), (4, 2), (7, 11), (30, 20), (100, 60)):
            of_counts, of_lines = self.look_through(counts, lines)
            self.assertLessEqual(max(of_counts), counts)
            self.assertLessEqual(max(of_lines), lines)
            # The bound is reached, and left behind many times.
            self.assertGreaterEqual(max(of_counts), counts - 1)
            self.assertGreaterEqual(max(of_lines), lines - 1)
            self.assertGreater(len(of_counts), 2 * counts)
            self.assertGreater(len(of_lines), 2 * lines)

    def test_nothing_is_kept_where_nothing_may_be(self):
        for counts, lines in ((0, 2), (1, 2)):
            self.assertEqual(max(self.look_through(counts, lines)[0]), 0)
        for counts, lines in ((2, 0), (2, 1)):
            self.assertEqual(max(self.look_through(counts, lines)[1]), 0)

    def test_a_longer_look_takes_no_more_memory(self):
        with bound(500, 200):
            self.assertLess(peak_of(one_in_each(7), math.factorial(7)), 200000)
            self.assertLess(peak_of(one_in_each(8), math.factorial(8)), 200000)
        # Without that bound the same call takes much more.
        self.assertGreater(peak_of(one_in_each(8), math.factorial(8)), 400000)

    def test_the_bounds_leave_room_in_a_gigabyte(self):
        # A key has at most 14 numbers, as the shorter side has at most 12 squares; a line has at most 64 cells.
        for most, numbers in ((boards.MOST_COUNTS, 14), (boards.MOST_LINES, 2 * 64)):
            self.assertLess(most * (8 * numbers + 300), 500000000)


class TheStore(unittest.TestCase):
    def test_the_oldest_goes_first(self):
        store = boards.store_for(6)
        for number in range(6):
            boards.keep(store, number, str(number))
        self.assertEqual([boards.kept(store, number) for number in (3, 4, 5)], ["3", "4", "5"])
        self.assertEqual([boards.kept(store, number) for number in (6, 7)], [None, None])
        boards.keep(store, 6, "6")
        self.assertEqual([boards.kept(store, number) for number in range(3)], [None] * 3)

    def test_what_is_asked_for_again_stays(self):
        store = boards.store_for(6)
        boards.keep(store, 0, "0")
        for number in range(1, 30):
            boards.keep(store, number, str(number))
            self.assertEqual(boards.kept(store, 0), "0")
            self.assertLessEqual(len(store["young"]) + len(store["old"]), 6)


class TheSameAnswers(unittest.TestCase):
    def compare(self, puzzle, cells, counts, lines):
        """Holds every picture, the two that would come behind the last, and the count against a plain search."""
        found = by_search(puzzle, cells)
        with bound(counts, lines):
            for k, squares in enumerate(found):
                self.assertEqual(picture(puzzle, cells, k), [0, len(squares)] + squares, (puzzle, cells, k, counts))
            self.assertEqual(picture(puzzle, cells, len(found)), [-3], (puzzle, cells, counts))
            self.assertEqual(picture(puzzle, cells, len(found) + 1), [-3], (puzzle, cells, counts))
            for most in (0, 1, len(found), len(found) + 1, 1000000):
                self.assertEqual(count(puzzle, cells, most), [min(most, len(found))], (puzzle, cells, most, counts))
        return len(found)

    def test_one_picture_several_and_none(self):
        crossed = told([[(1, 6)], [(2, 6)], [(2, 6)], [(1, 6)]], [[(1, 6)]] * 2 + [[(1, 6), (1, 6)]] * 2)
        for counts in BOUNDS:
            for lines in BOUNDS:
                self.assertEqual(self.compare(puzzle_of([[1, 1, 1], [0, 1, 0]]), [3] * 6, counts, lines), 1)
                self.assertEqual(self.compare(EITHER, [3] * 4, counts, lines), 2)
                self.assertEqual(self.compare(one_in_each(3), [3] * 9, counts, lines), 6)
                self.assertEqual(self.compare(crossed, [65] * 16, counts, lines), 0)

    def test_many_pictures(self):
        wide, high = shared_out(4, 2)
        for counts in BOUNDS:
            self.assertEqual(self.compare(one_in_each(4), [3] * 16, counts, counts), 24)
            self.assertEqual(self.compare(told(wide, high), [3] * 16, counts, counts), 6)
            self.assertEqual(self.compare(told(high, wide), [3] * 16, counts, counts), 6)

    def test_thrown_puzzles(self):
        dice = random.Random(31)
        how_many = []
        for turn in range(500):
            puzzle, cells = dice_puzzle(dice, 5, [10, 20, 35, 50])
            how_many.append(self.compare(puzzle, cells, dice.choice(BOUNDS), dice.choice(BOUNDS)))
        self.assertGreater(how_many.count(0), 20)
        self.assertGreater(how_many.count(1), 20)
        self.assertGreater(sum(1 for many in how_many if many > 1), 20)

    def test_columns_in_another_order(self):
        dice = random.Random(32)
        for puzzle, cells in shuffled_puzzles(dice, 200):
            self.compare(puzzle, cells, dice.choice(BOUNDS), dice.choice(BOUNDS))

    def test_a_large_puzzle(self):
        for k in (0, 1000, 1000000):
            kept_all = picture(one_in_each(12), [3] * 144, k)
            for counts, lines in ((3000, 500), (20000, 100)):
                with bound(counts, lines):
                    self.assertEqual(picture(one_in_each(12), [3] * 144, k), kept_all)
                    self.assertEqual(count(one_in_each(12), [3] * 144, k), [k])


class SeenWithoutASearch(unittest.TestCase):
    """Where rows and columns do not agree ahead of some cut, and yet colour as many squares of each colour in all."""

    def refused(self, puzzle, cells):
        with mock.patch.object(pictures, "count_up_to", side_effect=AssertionError("a search was begun")):
            self.assertEqual(picture(puzzle, cells, 0), [-3])
            self.assertEqual(count(puzzle, cells, 1000000), [0])

    def test_very_much_to_look_through(self):
        self.refused([12, 12] + [4, 1, 1, 1, 1, 1, 2, 1, 1] * 12 + ([4] + [1, 1] * 4) * 2 + ([3] + [1, 1] * 3) * 5
                     + [1, 12, 2] + ([4] + [1, 1] * 4) + ([3] + [1, 1] * 3) * 3,
                     [3, 3, 3, 3, 3, 3, 3, 4, 3, 3, 3, 3] * 12)
        self.refused([12, 12] + [3, 1, 1, 1, 2, 1, 1] * 12 + ([2] + [1, 1] * 2) * 5 + [1, 1, 1] + [1, 12, 2]
                     + ([3] + [1, 1] * 3) * 3 + ([2] + [1, 1] * 2) * 2,
                     [3, 3, 3, 3, 3, 3, 4, 3, 3, 3, 3, 3] * 12)

    def test_a_cut_between_columns_and_one_between_rows(self):
        lines = [[(1, 1), (1, 2), (1, 1)]] * 5
        across = [[(1, 1), (1, 1)]] * 2 + [[(5, 2)]] + [[(1, 1), (1, 1)]] * 3
        self.refused(told(lines, across), [7] * 30)
        self.refused(told(across, lines), [7] * 30)

    def test_one_too_many_ahead_and_one_too_few(self):
        lines = [[(1, 1), (1, 2), (1, 1)]] * 4
        full = [[(4, 2)]]
        one = [[(1, 1)]]
        two = [[(1, 1), (1, 1)]]
        self.refused(told(lines, one * 3 + full + two * 2 + one), [7] * 28)
        self.refused(told(lines, two * 2 + one + full + one * 3), [7] * 28)
        self.assertEqual(picture(told(lines, one * 4 + full + one * 4), [7] * 36, 0)[0], 0)

    def test_as_many_squares_and_yet_not_of_each_colour(self):
        self.refused(told([[(1, 1)]] * 3, [[(1, 1)], [(1, 2)], [(1, 1)]]), [7] * 9)
        self.refused(told([[(1, 1)]] * 4, [[(1, 1)]] * 5), [3] * 20)


if __name__ == "__main__":
    unittest.main()
