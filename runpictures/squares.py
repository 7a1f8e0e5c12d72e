"""What can be known of the squares of a picture that is told by its runs."""

MOST_SIDE = 64
MOST_RUNS = 64
MOST_LENGTH = 64
MOST_COLOUR = 7
MOST_BYTES = 16384
MOST_SQUARES = 144
MOST_PICTURES = 1000000
BLANK = 1


def line(runs, cells):
    """How many lines fit the runs told, and what each cell's square is in some of them."""
    if len(runs) > 2 * MOST_RUNS or not within(len(cells), 1, MOST_SIDE):
        return [-1]
    if not runs_are_told(runs) or 0 in cells:
        return [-2]
    found = narrowed(runs, cells)
    if found is None:
        return [-3]
    changed = 1 if found != cells else 0
    return [changed, len(found)] + found + [1, lines_that_fit(runs, cells)]


def look(puzzle):
    """The width, the height, and how many more squares the rows colour than the columns."""
    if not within(len(puzzle), 1, MOST_BYTES):
        return [-1]
    told = lines_told(puzzle)
    if told is None:
        return [-2]
    width = puzzle[0]
    height = puzzle[1]
    return [0, 3, width, height, sum(squares_coloured(told[:height])) - sum(squares_coloured(told[height:]))]


def follow(puzzle, cells):
    """What is left of the cells when no row and no column, each by itself, has more to say."""
    fault = fault_of(puzzle, cells, MOST_SIDE * MOST_SIDE)
    if fault < 0:
        return [fault]
    board = board_of(lines_told(puzzle), puzzle[0], puzzle[1])
    size = puzzle[0] * puzzle[1]
    found = settled(board, cells[:size], board["numbers"])
    if found is None:
        return [-3]
    sure = [cell for cell in found if not is_open(cell)]
    return [len(sure), len(cells)] + found + cells[size:]


def picture(puzzle, cells, k):
    """The squares of the k-th picture that fits, from 0 on."""
    if not within(k, 0, MOST_PICTURES):
        return [-1]
    fault = fault_of(puzzle, cells, MOST_SQUARES)
    if fault < 0:
        return [fault]
    narrow = narrow_board(puzzle, cells)
    found = cells_of_picture(narrow["board"], narrow["cells"], narrow["order"], k)
    if found is None:
        return [-3]
    return [0, len(found)] + [found[place].bit_length() - 1 for place in narrow["order"]]


def within(number, low, high):
    return low <= number and number <= high


def fault_of(puzzle, cells, most):
    """What a puzzle of at most so many squares, or its cells, are refused with; 0 if they are not."""
    if not within(len(puzzle), 1, MOST_BYTES) or len(cells) > MOST_BYTES:
        return -1
    if lines_told(puzzle) is None:
        return -2
    size = puzzle[0] * puzzle[1]
    if len(cells) < size:
        return -5
    if size > most:
        return -6
    return -2 if 0 in cells[:size] else 0


def runs_are_told(runs):
    """Whether each pair is a length and a colour that a run may have."""
    for at in range(0, len(runs), 2):
        if not within(runs[at], 1, MOST_LENGTH) or not within(runs[at + 1], 1, MOST_COLOUR):
            return False
    return True


def lines_told(puzzle):
    """The runs of each row, then of each column; None if the puzzle isn't as told."""
    if len(puzzle) < 2 or not within(puzzle[0], 1, MOST_SIDE) or not within(puzzle[1], 1, MOST_SIDE):
        return None
    told = []
    start = 2
    while len(told) < puzzle[0] + puzzle[1]:
        if start >= len(puzzle):
            return None
        end = start + 1 + 2 * puzzle[start]
        if end > len(puzzle):
            return None
        runs = puzzle[start + 1:end]
        if not runs_are_told(runs):
            return None
        told.append(runs)
        start = end
    return told if start == len(puzzle) else None


def squares_coloured(told):
    """How many squares of each colour these lines have."""
    many = [0] * (MOST_COLOUR + 1)
    for runs in told:
        for at in range(0, len(runs), 2):
            many[runs[at + 1]] += runs[at]
    return many


def apart(runs, at):
    """Whether a blank must lie between a run and the one ahead of it."""
    return 0 < at and at < len(runs) and runs[at - 1] == runs[at + 1]


def places_allowed(cells, square):
    """Where the square may stand. Places are the bits of one number, so that all of them are moved at once."""
    return sum([((cell >> square) & 1) << at for at, cell in enumerate(cells)])


def room_for(cells, length, colour):
    """Where a run may begin, by the cells that it would cover."""
    places = places_allowed(cells, colour)
    room = places
    for step in range(1, length):
        room = room & (places >> step)
    return room


def lines_that_fit(runs, cells):
    """How many lines fit; row[i] says in how many ways the runs so far, and blanks else, fill the first i cells."""
    blank = places_allowed(cells, 0)
    row = summed_over_blanks([1] + [0] * len(cells), blank)
    for at in range(0, len(runs), 2):
        if apart(runs, at):
            row = moved(row, blank, 1)
        room = room_for(cells, runs[at], runs[at + 1])
        row = summed_over_blanks(moved(row, room, runs[at]), blank)
    return row[-1]


def moved(row, places, step):
    """The numbers that stand at these places, so many places further on."""
    kept = [many if (places >> at) & 1 else 0 for at, many in enumerate(row)]
    return ([0] * step + kept)[:len(row)]


def summed_over_blanks(row, blank):
    summed = [row[0]]
    for at, many in enumerate(row[1:]):
        summed.append(many + summed[-1] if (blank >> at) & 1 else many)
    return summed


def narrowed(runs, cells):
    """Each cell with those bits alone that its square has in some line that fits; None if none fits."""
    blank = places_allowed(cells, 0)
    ahead = places_ahead(runs, cells, blank)
    if not (ahead["ends"][-1] >> len(cells)) & 1:
        return None
    found = [0] * len(cells)
    for square, places in enumerate(places_met(runs, ahead, blank, len(cells))):
        for at in range(places.bit_length()):
            if (places >> at) & 1:
                found[at] = found[at] | (1 << square)
    return found


def places_ahead(runs, cells, blank):
    """Where each run may begin, and how many cells the runs up to it can fill with blanks, by what is ahead alone."""
    begins = []
    ends = [over_blanks(1, blank)]
    for at in range(0, len(runs), 2):
        begin = (ends[-1] & blank) << 1 if apart(runs, at) else ends[-1]
        begins.append(begin & room_for(cells, runs[at], runs[at + 1]))
        ends.append(over_blanks(begins[-1] << runs[at], blank))
    return {"begins": begins, "ends": ends}


def places_met(runs, ahead, blank, size):
    """For blank and each colour where it stands in some line that fits, found from the line's end."""
    met = [0] * (MOST_COLOUR + 1)
    behind = back_over_blanks(1 << size, blank)
    met[0] = ahead["ends"][-1] & blank & (behind >> 1)
    for number in range(len(runs) // 2 - 1, -1, -1):
        length = runs[2 * number]
        colour = runs[2 * number + 1]
        if apart(runs, 2 * number + 2):
            behind = blank & (behind >> 1)
        begins = ahead["begins"][number] & (behind >> length)
        met[colour] = met[colour] | stretched(begins, length)
        behind = back_over_blanks(begins, blank)
        met[0] = met[0] | (ahead["ends"][number] & blank & (behind >> 1))
    return met


def over_blanks(places, blank):
    """The places, and those that are reached from them over blanks."""
    # The sum carries every place through its blanks at once, up to the first cell that is none.
    return places | ((blank + (places & blank)) ^ blank)


def back_over_blanks(places, blank):
    """The places, and those from which they are reached over blanks."""
    step = 1
    while blank > 0:
        places = places | (blank & (places >> step))
        blank = blank & (blank >> step)
        step = 2 * step
    return places


def stretched(places, length):
    """The cells that runs of this length cover if they begin at these places."""
    covered = places
    for step in range(1, length):
        covered = covered | (places << step)
    return covered


def is_open(cell):
    """Whether more than one square is allowed."""
    return cell & (cell - 1) > 0


def board_of(told, width, height):
    """A puzzle's lines, rows first: their runs, where their cells lie, and what was found of them so far."""
    rows = [(row * width, row * width + width, 1) for row in range(height)]
    columns = [(column, width * height, width) for column in range(width)]
    return {"width": width, "height": height, "numbers": list(range(width + height)), "told": told,
            "spans": rows + columns, "lines": [{} for runs in told], "counts": {}}


def settled(board, cells, numbers):
    """The cells when neither these lines nor those that they touch change one any more; None if a line never fits."""
    cells = list(cells)
    while numbers:
        touched = {}
        for number in numbers:
            span = board["spans"][number]
            before = tuple(cells[span[0]:span[1]:span[2]])
            found = line_found(board, number, before)
            if found is None:
                return None
            first_across = board["height"] if number < board["height"] else 0
            for place, cell in enumerate(found):
                if cell != before[place]:
                    cells[span[0] + place * span[2]] = cell
                    touched[first_across + place] = True
        numbers = list(touched)
    return cells


def line_found(board, number, before):
    """What a line makes of its cells; kept for this board, as the same cells come again and again."""
    kept = board["lines"][number]
    if before not in kept:
        found = narrowed(board["told"][number], before)
        kept[before] = None if found is None else tuple(found)
    return kept[before]


def with_cell(board, cells, at, cell):
    """The cells with this one in its place and all that follows from it; None if nothing fits then."""
    changed = list(cells)
    changed[at] = cell
    return settled(board, changed, [at // board["width"], board["height"] + at % board["width"]])


def narrow_board(puzzle, cells):
    """The puzzle's board and its cells, turned if its rows are longer than its columns: short rows leave less to count.

    order says where the squares, row by row as they were told, lie on that board.
    """
    width = puzzle[0]
    height = puzzle[1]
    told = lines_told(puzzle)
    order = list(range(width * height))
    if width <= height:
        return {"board": board_of(told, width, height), "cells": cells[:len(order)], "order": order}
    return {"board": board_of(told[height:] + told[:height], height, width),
            "cells": column_by_column(cells[:len(order)], width), "order": column_by_column(order, height)}


def column_by_column(cells, width):
    turned = []
    for column in range(width):
        turned = turned + cells[column::width]
    return turned


def cells_of_picture(board, cells, order, k):
    """The cells of the k-th picture, where squares are compared in this order; None if there are no more."""
    told = board["told"]
    # No line by itself can see this, and the search would see it last of all.
    if squares_coloured(told[:board["height"]]) != squares_coloured(told[board["height"]:]):
        return None
    cells = settled(board, cells, board["numbers"])
    if cells is None or count_up_to(board, cells, k + 1) <= k:
        return None
    for at in order:
        while is_open(cells[at]):
            lowest = cells[at] & -cells[at]
            branch = with_cell(board, cells, at, lowest)
            many = 0 if branch is None else count_up_to(board, branch, k + 1)
            if many > k:
                cells = branch
            else:
                k -= many
                cells = with_cell(board, cells, at, cells[at] - lowest)
    return cells


def count_up_to(board, cells, enough):
    """How many pictures fit; if there are enough, some number that isn't lower than that."""
    levels = [{"key": None, "at": 0, "waiting": [cells], "many": 0}]
    while True:
        level = levels[-1]
        if level["waiting"] and level["many"] < enough:
            enter(board, levels, level["waiting"].pop())
        elif len(levels) == 1:
            return level["many"]
        else:
            levels.pop()
            board["counts"][level["key"]] = level["many"]
            levels[-1]["many"] += level["many"]


def enter(board, levels, cells):
    """Adds the cells' pictures to the last level, or lays a level upon it that will."""
    level = levels[-1]
    at = level["at"]
    while at < len(cells) and not is_open(cells[at]):
        at += 1
    if at == len(cells):
        level["many"] += 1
        return
    key = key_of(board["width"], cells, at)
    if key in board["counts"]:
        level["many"] += board["counts"][key]
        return
    levels.append({"key": key, "at": at, "waiting": branches(board, cells, at), "many": 0})


def branches(board, cells, at):
    """What follows from each square that the cell allows, the lowest last, as the last is taken up first."""
    bits = [1 << square for square in range(MOST_COLOUR, -1, -1)]
    found = [with_cell(board, cells, at, bit) for bit in bits if cells[at] & bit]
    return [branch for branch in found if branch is not None]


def key_of(width, cells, at):
    """All that the pictures hang on from an open cell on, if none is open ahead of it.

    That is the cells from there on, and of each column how many blanks it has ahead: as its runs come in the order
    told, this says how far they have come. Whether the last of them may touch the next is seen by the cells, and
    how far the open row has come by all the columns together.
    """
    blanks = [cells[column:at:width].count(BLANK) for column in range(width)]
    return tuple(blanks + cells[at:])
