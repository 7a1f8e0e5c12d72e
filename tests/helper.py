"""What the tests share."""

import itertools


def refuse(*given, **named):
    raise AssertionError("what is handed in was changed")


class Untouched(list):
    """A list that tells at once when it is changed, even if it is changed back."""

    __setitem__ = __delitem__ = __iadd__ = __imul__ = refuse
    append = clear = extend = insert = pop = remove = reverse = sort = refuse


class HandedIn:
    """What each function keeps to: for a test case that names it, as FUNCTION, and tuples to call it with, as CALLS."""

    FUNCTION = None
    CALLS = []
    # Whether nothing stands behind the number that is answered first, be it a refusal or not.
    ONE_NUMBER = False

    def answer(self, call):
        return type(self).FUNCTION(*call)

    def test_the_lists_stay_as_they_were(self):
        for call in self.CALLS:
            given = [Untouched(value) if isinstance(value, list) else value for value in call]
            self.answer(given)
            self.assertEqual(given, list(call))

    def test_a_second_call_answers_as_the_first(self):
        first = [self.answer(call) for call in self.CALLS]
        second = [self.answer(call) for call in reversed(self.CALLS)]
        self.assertEqual(first, second[::-1])

    def test_an_answer_that_is_changed_changes_no_later_one(self):
        for call in self.CALLS:
            first = self.answer(call)
            kept = list(first)
            for at in range(len(first)):
                first[at] = 77
            first.append(9)
            self.assertEqual(self.answer(call), kept)

    def test_an_answer_holds_whole_numbers_alone(self):
        for call in self.CALLS:
            answer = self.answer(call)
            self.assertIs(type(answer), list)
            self.assertEqual({type(number) for number in answer}, {int})

    def test_a_refusal_stands_alone(self):
        for call in self.CALLS:
            answer = self.answer(call)
            self.assertEqual(len(answer) == 1, answer[0] < 0 or self.ONE_NUMBER)


def runs_of(squares):
    """The runs of a line of squares, as pairs side by side."""
    runs = []
    for colour, group in itertools.groupby(squares):
        if colour:
            runs += [len(list(group)), colour]
    return runs


def pairs_of(squares):
    """The runs of a line of squares, as pairs (length, colour)."""
    runs = runs_of(squares)
    return list(zip(runs[::2], runs[1::2]))


def lines_allowed(cells):
    """All the lines of which each square is one that its cell allows."""
    return itertools.product(*[[bit for bit in range(8) if cell >> bit & 1] for cell in cells])


def told(rows, columns):
    """The puzzle of these rows and columns, each a list of pairs (length, colour)."""
    puzzle = [len(columns), len(rows)]
    for runs in rows + columns:
        puzzle.append(len(runs))
        for length, colour in runs:
            puzzle += [length, colour]
    return puzzle


def puzzle_of(rows):
    """The puzzle that a picture makes, given by its rows of squares."""
    puzzle = [len(rows[0]), len(rows)]
    for squares in list(rows) + list(zip(*rows)):
        runs = runs_of(squares)
        puzzle += [len(runs) // 2] + runs
    return puzzle


def lines_of(puzzle):
    """Each line's runs and where its cells lie: the rows, then the columns."""
    width, height = puzzle[:2]
    places = [range(row * width, row * width + width) for row in range(height)]
    places += [range(column, width * height, width) for column in range(width)]
    lines = []
    start = 2
    for line in places:
        end = start + 1 + 2 * puzzle[start]
        lines.append((puzzle[start + 1:end], list(line)))
        start = end
    return lines


def fits(puzzle, squares):
    return all(runs_of([squares[at] for at in places]) == runs for runs, places in lines_of(puzzle))


def longest():
    """A puzzle of 16384 bytes: 63 rows of 64 runs and one of 63, 63 columns of 64 runs and one of none."""
    rows = [[(1, 1), (1, 7)] * 32 for row in range(63)] + [[(1, 3)] * 63]
    columns = [[(1, 2)] * 64 for column in range(63)] + [[]]
    return told(rows, columns)


# One square coloured in each of two rows and columns: two pictures.
EITHER = told([[(1, 1)], [(1, 1)]], [[(1, 1)], [(1, 1)]])


def one_in_each(side):
    """One square coloured in each row and column: as many pictures as the columns have orders."""
    return told([[(1, 1)]] * side, [[(1, 1)]] * side)


def shared_out(lines, each):
    """Two long lines that share the coloured squares; behind every square that one of them has lies a blank."""
    return [[(1, 1)] * each] * 2, [[(1, 1)], []] * lines


def by_search(puzzle, cells):
    """All the pictures that fit, in order, found by trying every row that fits with every other."""
    height = puzzle[1]
    lines = lines_of(puzzle)
    rows = [[squares for squares in lines_allowed([cells[at] for at in places]) if runs_of(squares) == runs]
            for runs, places in lines[:height]]
    pictures = [[square for squares in picked for square in squares] for picked in itertools.product(*rows)]
    return sorted(squares for squares in pictures if fits(puzzle, squares))


def dice_picture(dice, width, height, colours, coloured):
    """Rows of squares thrown with dice, so many of a hundred coloured."""
    return [[dice.choice(colours) if dice.randrange(100) < coloured else 0 for column in range(width)]
            for row in range(height)]


def dice_cells(dice, squares, colours):
    """Cells for these squares: that allow all, that allow them and some more, or that may rule them out."""
    every = 1 + sum(1 << colour for colour in colours)
    way = dice.randrange(3)
    if way == 0:
        return [every] * len(squares)
    if way == 1:
        return [1 << square | every & dice.randrange(256) for square in squares]
    return [every & dice.randrange(256) or every for square in squares]


def dice_puzzle(dice, most_side, coloured):
    """The puzzle of a small thrown picture, of one colour or two and one of these shares coloured, and its cells."""
    width = dice.randint(1, most_side)
    height = dice.randint(1, most_side)
    colours = dice.sample(range(1, 8), dice.choice([1, 1, 2]))
    rows = dice_picture(dice, width, height, colours, dice.choice(coloured))
    return puzzle_of(rows), dice_cells(dice, [square for row in rows for square in row], colours)


def mixed_puzzles(dice, turns):
    """Puzzles that tell the rows of one thrown picture and the columns of another, and cells that allow all."""
    for turn in range(turns):
        width = dice.randint(2, 4)
        height = dice.randint(2, 4)
        rows = [pairs_of(row) for row in dice_picture(dice, width, height, [1, 2], 40)]
        columns = [pairs_of(column) for column in zip(*dice_picture(dice, width, height, [1, 2], 40))]
        yield told(rows, columns), [7] * (width * height)


def shuffled_puzzles(dice, turns):
    """Puzzles that tell as many squares of each colour by the rows as by the columns, and yet often no picture fits."""
    for turn in range(turns):
        width = dice.randint(3, 5)
        rows = dice_picture(dice, width, 4, [1, 2], 50)
        columns = [pairs_of(column) for column in zip(*rows)]
        dice.shuffle(columns)
        yield told([pairs_of(row) for row in rows], columns), [7] * (4 * width)


def long_puzzles(dice, turns):
    """Puzzles of thrown pictures that are far wider than high, or higher than wide, and their cells."""
    for turn in range(turns):
        for width, height in ((8, 2), (2, 8), (7, 3), (3, 7)):
            rows = dice_picture(dice, width, height, [4], 30)
            yield puzzle_of(rows), dice_cells(dice, [square for row in rows for square in row], [4])


class RefusedSearches:
    """What picture and count refuse, and in which order: for a test case that names one of them, as FUNCTION."""

    FUNCTION = None

    def refused(self, puzzle, cells, refusal, numbers=(0, 1, 1000000)):
        for number in numbers:
            answer = type(self).FUNCTION(puzzle, cells, number)
            self.assertEqual(answer, [refusal], (puzzle[:20], cells[:20], number))

    def test_numbers_out_of_range(self):
        for size in (2, 12):
            for number in (-1, 1000001, -2147483648, 2147483647):
                self.refused(one_in_each(size), [3] * (size * size), -1, [number])

    def test_how_many_bytes_the_puzzle_has(self):
        self.refused([], [3] * 4, -1)
        self.refused([1] * 16385, [3] * 4, -1)
        self.refused(longest() + [0], [3] * 4096, -1)
        self.refused([1] * 16384, [3] * 4, -2)
        self.refused(longest(), [3] * 4096, -6)

    def test_how_many_cells_there_are(self):
        self.refused(EITHER, [3] * 16385, -1)
        self.refused(EITHER, [3] * 16400, -1)
        self.refused(EITHER, [3] * 3, -5)
        self.refused(EITHER, [], -5)
        self.refused(one_in_each(12), [3] * 143, -5)

    def test_a_puzzle_that_is_not_as_told(self):
        for puzzle in ([1], [0, 1, 0], [1, 0, 0], [65, 1] + [0] * 66, [1, 65] + [0] * 66, [1, 1, 0], [1, 1, 0, 0, 0],
                       [1, 1, 1, 0, 1, 0], [1, 1, 1, 65, 1, 0], [1, 1, 0, 1, 1, 0], [1, 1, 0, 1, 1, 8],
                       [1, 1, 0, 1, 1], EITHER[:-1], EITHER + [0]):
            self.refused(puzzle, [3] * 4096, -2)

    def test_more_than_144_squares(self):
        for width, height in ((29, 5), (5, 29), (64, 3), (3, 64), (13, 12), (12, 13), (64, 64)):
            self.refused(puzzle_of([[4] * width] * height), [255] * (width * height), -6)

    def test_a_cell_without_a_bit(self):
        for at in range(4):
            cells = [3] * 4
            cells[at] = 0
            self.refused(EITHER, cells, -2)
            self.refused(EITHER, cells + [3], -2)
        self.refused(one_in_each(12), [3] * 143 + [0], -2)

    def test_numbers_out_of_range_come_before_a_puzzle_that_is_not_as_told(self):
        for puzzle, cells in (([0, 0], [3]), (EITHER, [3]), ([64, 64] + [0] * 128, [3] * 4096), (EITHER, [0] * 4),
                              (told([[(1, 1)]], [[]]), [3])):
            self.refused(puzzle, cells, -1, (-1, 1000001))
        self.refused([0, 0], [3] * 16385, -1)
        self.refused([0] * 16385, [3], -1)
        self.refused([], [], -1)
        self.refused(EITHER, [0] * 16385, -1)
        self.refused([64, 64] + [0] * 128, [0] * 16385, -1)

    def test_a_puzzle_that_is_not_as_told_comes_before_too_few_cells(self):
        self.refused([0, 0], [], -2)
        self.refused(EITHER + [0], [3], -2)
        self.refused([1, 1, 1, 1, 8, 0], [], -2)

    def test_a_puzzle_that_is_not_as_told_comes_before_too_many_squares(self):
        self.refused([64, 64] + [0] * 127, [3] * 4096, -2)
        self.refused([64, 64] + [0] * 129, [3] * 4096, -2)

    def test_too_few_cells_come_before_too_many_squares(self):
        self.refused([64, 64] + [0] * 128, [3] * 4095, -5)
        self.refused([29, 5] + [0] * 34, [3] * 144, -5)
        self.refused([29, 5] + [0] * 34, [3] * 145, -6)
        self.refused([29, 5] + [0] * 34, [], -5)

    def test_too_few_cells_come_before_cells_that_are_not_as_told(self):
        self.refused(EITHER, [0] * 3, -5)

    def test_too_many_squares_come_before_cells_that_are_not_as_told(self):
        self.refused([29, 5] + [0] * 34, [0] * 145, -6)
        self.refused([64, 64] + [0] * 128, [3] * 4095 + [0], -6)

    def test_refusals_come_before_none_fits(self):
        self.refused([29, 5] + [0] * 34, [2] * 145, -6)
        self.refused([1, 1, 1, 2, 1, 0], [0], -2)
        self.refused(told([[(1, 1)]] * 4, [[(1, 1)]] * 5), [3] * 19 + [0], -2)
