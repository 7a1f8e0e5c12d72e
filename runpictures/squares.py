"""What can be known of the squares of a picture that is told by its runs."""

from runpictures.boards import board_of, is_open, settled
from runpictures.lines import MOST_COLOUR, lines_that_fit, narrowed, runs_of, squares_coloured
from runpictures.pictures import cells_of_picture, narrow_board, number_of_pictures

MOST_SIDE = 64
MOST_RUNS = 64
MOST_LENGTH = 64
MOST_BYTES = 16384
MOST_SQUARES = 144
MOST_PICTURES = 1000000


def line(runs, cells):
    """How many lines fit the runs told, and what each cell's square is in some of them."""
    if len(runs) > 2 * MOST_RUNS or not within(len(cells), 1, MOST_SIDE):
        return [-1]
    if not runs_are_told(runs) or 0 in cells:
        return [-2]
    found = narrowed(runs, cells)
    if found is None:
        return [-3]
    changed = 1 if found != cells else 0
    return [changed, len(found)] + found + [1, lines_that_fit(runs, cells)]


def look(puzzle):
    """The width, the height, and how many more squares the rows colour than the columns."""
    if not within(len(puzzle), 1, MOST_BYTES):
        return [-1]
    told = lines_told(puzzle)
    if told is None:
        return [-2]
    width = puzzle[0]
    height = puzzle[1]
    return [0, 3, width, height, sum(squares_coloured(told[:height])) - sum(squares_coloured(told[height:]))]


def follow(puzzle, cells):
    """What is left of the cells when no row and no column, each by itself, has more to say."""
    fault = fault_of(puzzle, cells, MOST_SIDE * MOST_SIDE)
    if fault < 0:
        return [fault]
    board = board_of(lines_told(puzzle), puzzle[0], puzzle[1])
    size = puzzle[0] * puzzle[1]
    found = settled(board, cells[:size], board["numbers"])
    if found is None:
        return [-3]
    sure = [cell for cell in found if not is_open(cell)]
    return [len(sure), len(cells)] + found + cells[size:]


def picture(puzzle, cells, k):
    """The squares of the k-th picture that fits, from 0 on."""
    fault = fault_of_search(puzzle, cells, k)
    if fault < 0:
        return [fault]
    narrow = narrow_board(lines_told(puzzle), puzzle[0], puzzle[1], cells)
    found = cells_of_picture(narrow["board"], narrow["cells"], narrow["order"], k)
    if found is None:
        return [-3]
    return [0, len(found)] + [found[place].bit_length() - 1 for place in narrow["order"]]


def count(puzzle, cells, most):
    """How many pictures fit, but most where there are more."""
    fault = fault_of_search(puzzle, cells, most)
    if fault < 0:
        return [fault]
    narrow = narrow_board(lines_told(puzzle), puzzle[0], puzzle[1], cells)
    return [number_of_pictures(narrow["board"], narrow["cells"], most)]


def tell(squares, sides, most):
    """How long the puzzle is that a picture's squares make, and its bytes."""
    width = sides[0]
    height = sides[1]
    if not within(width, 1, MOST_SIDE) or not within(height, 1, MOST_SIDE) or not within(most, 0, MOST_BYTES):
        return [-1]
    if len(squares) != width * height or not all([within(square, 0, MOST_COLOUR) for square in squares]):
        return [-2]
    puzzle = puzzle_made(squares, width, height)
    if len(puzzle) > most:
        return [-4]
    return [len(puzzle), len(puzzle)] + puzzle


def within(number, low, high):
    return low <= number and number <= high


def fault_of_search(puzzle, cells, number):
    """What a search that goes on up to this number is refused with; 0 if it is not."""
    return fault_of(puzzle, cells, MOST_SQUARES) if within(number, 0, MOST_PICTURES) else -1


def fault_of(puzzle, cells, most):
    """What a puzzle of at most so many squares, or its cells, are refused with; 0 if they are not."""
    if not within(len(puzzle), 1, MOST_BYTES) or len(cells) > MOST_BYTES:
        return -1
    if lines_told(puzzle) is None:
        return -2
    size = puzzle[0] * puzzle[1]
    if len(cells) < size:
        return -5
    if size > most:
        return -6
    return -2 if 0 in cells[:size] else 0


def runs_are_told(runs):
    """Whether each pair is a length and a colour that a run may have."""
    for at in range(0, len(runs), 2):
        if not within(runs[at], 1, MOST_LENGTH) or not within(runs[at + 1], 1, MOST_COLOUR):
            return False
    return True


def lines_told(puzzle):
    """The runs of each row, then of each column; None if the puzzle isn't as told."""
    if len(puzzle) < 2 or not within(puzzle[0], 1, MOST_SIDE) or not within(puzzle[1], 1, MOST_SIDE):
        return None
    told = []
    start = 2
    while len(told) < puzzle[0] + puzzle[1]:
        if start >= len(puzzle):
            return None
        end = start + 1 + 2 * puzzle[start]
        if end > len(puzzle):
            return None
        runs = puzzle[start + 1:end]
        if not runs_are_told(runs):
            return None
        told.append(runs)
        start = end
    return told if start == len(puzzle) else None


def puzzle_made(squares, width, height):
    """What is told of each row, then of each column, behind the two sides."""
    rows = [squares[row * width:row * width + width] for row in range(height)]
    columns = [squares[column::width] for column in range(width)]
    puzzle = [width, height]
    for squares_of_line in rows + columns:
        runs = runs_of(squares_of_line)
        puzzle.append(len(runs) // 2)
        puzzle.extend(runs)
    return puzzle
