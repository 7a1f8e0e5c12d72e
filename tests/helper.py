"""What the tests share."""

import itertools


def refuse(*given, **named):
    raise AssertionError("what is handed in was changed")


class Untouched(list):
    """A list that tells at once when it is changed, even if it is changed back."""

    __setitem__ = __delitem__ = __iadd__ = __imul__ = refuse
    append = clear = extend = insert = pop = remove = reverse = sort = refuse


class HandedIn:
    """What each function keeps to: for a test case that names it, as FUNCTION, and tuples to call it with, as CALLS."""

    FUNCTION = None
    CALLS = []

    def answer(self, call):
        return type(self).FUNCTION(*call)

    def test_the_lists_stay_as_they_were(self):
        for call in self.CALLS:
            given = [Untouched(value) if isinstance(value, list) else value for value in call]
            self.answer(given)
            self.assertEqual(given, list(call))

    def test_a_second_call_answers_as_the_first(self):
        first = [self.answer(call) for call in self.CALLS]
        second = [self.answer(call) for call in reversed(self.CALLS)]
        self.assertEqual(first, second[::-1])

    def test_an_answer_that_is_changed_changes_no_later_one(self):
        for call in self.CALLS:
            first = self.answer(call)
            kept = list(first)
            for at in range(len(first)):
                first[at] = 77
            first.append(9)
            self.assertEqual(self.answer(call), kept)

    def test_an_answer_holds_whole_numbers_alone(self):
        for call in self.CALLS:
            answer = self.answer(call)
            self.assertIs(type(answer), list)
            self.assertEqual({type(number) for number in answer}, {int})

    def test_a_refusal_stands_alone(self):
        for call in self.CALLS:
            answer = self.answer(call)
            self.assertEqual(len(answer) == 1, answer[0] < 0)


def runs_of(squares):
    """The runs of a line of squares, as pairs side by side."""
    runs = []
    for colour, group in itertools.groupby(squares):
        if colour:
            runs += [len(list(group)), colour]
    return runs


def pairs_of(squares):
    """The runs of a line of squares, as pairs (length, colour)."""
    runs = runs_of(squares)
    return list(zip(runs[::2], runs[1::2]))


def lines_allowed(cells):
    """All the lines of which each square is one that its cell allows."""
    return itertools.product(*[[bit for bit in range(8) if cell >> bit & 1] for cell in cells])


def told(rows, columns):
    """The puzzle of these rows and columns, each a list of pairs (length, colour)."""
    puzzle = [len(columns), len(rows)]
    for runs in rows + columns:
        puzzle.append(len(runs))
        for length, colour in runs:
            puzzle += [length, colour]
    return puzzle


def puzzle_of(rows):
    """The puzzle that a picture makes, given by its rows of squares."""
    puzzle = [len(rows[0]), len(rows)]
    for squares in list(rows) + list(zip(*rows)):
        runs = runs_of(squares)
        puzzle += [len(runs) // 2] + runs
    return puzzle


def lines_of(puzzle):
    """Each line's runs and where its cells lie: the rows, then the columns."""
    width, height = puzzle[:2]
    places = [range(row * width, row * width + width) for row in range(height)]
    places += [range(column, width * height, width) for column in range(width)]
    lines = []
    start = 2
    for line in places:
        end = start + 1 + 2 * puzzle[start]
        lines.append((puzzle[start + 1:end], list(line)))
        start = end
    return lines


def fits(puzzle, squares):
    return all(runs_of([squares[at] for at in places]) == runs for runs, places in lines_of(puzzle))


def longest():
    """A puzzle of 16384 bytes: 63 rows of 64 runs and one of 63, 63 columns of 64 runs and one of none."""
    rows = [[(1, 1), (1, 7)] * 32 for row in range(63)] + [[(1, 3)] * 63]
    columns = [[(1, 2)] * 64 for column in range(63)] + [[]]
    return told(rows, columns)


# One square coloured in each of two rows and columns: two pictures.
EITHER = told([[(1, 1)], [(1, 1)]], [[(1, 1)], [(1, 1)]])


def one_in_each(side):
    """One square coloured in each row and column: as many pictures as the columns have orders."""
    return told([[(1, 1)]] * side, [[(1, 1)]] * side)


def shared_out(lines, each):
    """Two long lines that share the coloured squares; behind every square that one of them has lies a blank."""
    return [[(1, 1)] * each] * 2, [[(1, 1)], []] * lines


def by_search(puzzle, cells):
    """All the pictures that fit, in order, found by trying every row that fits with every other."""
    height = puzzle[1]
    lines = lines_of(puzzle)
    rows = [[squares for squares in lines_allowed([cells[at] for at in places]) if runs_of(squares) == runs]
            for runs, places in lines[:height]]
    pictures = [[square for squares in picked for square in squares] for picked in itertools.product(*rows)]
    return sorted(squares for squares in pictures if fits(puzzle, squares))


def dice_picture(dice, width, height, colours, coloured):
    """Rows of squares thrown with dice, so many of a hundred coloured."""
    return [[dice.choice(colours) if dice.randrange(100) < coloured else 0 for column in range(width)]
            for row in range(height)]


def dice_cells(dice, squares, colours):
    """Cells for these squares: that allow all, that allow them and some more, or that may rule them out."""
    every = 1 + sum(1 << colour for colour in colours)
    way = dice.randrange(3)
    if way == 0:
        return [every] * len(squares)
    if way == 1:
        return [1 << square | every & dice.randrange(256) for square in squares]
    return [every & dice.randrange(256) or every for square in squares]


def dice_puzzle(dice, most_side, coloured):
    """The puzzle of a small thrown picture, of one colour or two and one of these shares coloured, and its cells."""
    width = dice.randint(1, most_side)
    height = dice.randint(1, most_side)
    colours = dice.sample(range(1, 8), dice.choice([1, 1, 2]))
    rows = dice_picture(dice, width, height, colours, dice.choice(coloured))
    return puzzle_of(rows), dice_cells(dice, [square for row in rows for square in row], colours)
