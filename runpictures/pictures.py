"""Which pictures fit a board."""

from runpictures.boards import board_of, is_open, keep, kept, settled, with_cell
from runpictures.lines import MOST_COLOUR, places_that_fit, squares_coloured

BLANK = 1


def narrow_board(told, width, height, cells):
    """A puzzle's board and its cells, turned if its rows are longer than its columns: short rows leave less to count.

    order says where the squares, row by row as they were told, lie on that board.
    """
    order = list(range(width * height))
    if width <= height:
        return {"board": board_of(told, width, height), "cells": cells[:len(order)], "order": order}
    return {"board": board_of(told[height:] + told[:height], height, width),
            "cells": column_by_column(cells[:len(order)], width), "order": column_by_column(order, height)}


def column_by_column(cells, width):
    turned = []
    for column in range(width):
        turned = turned + cells[column::width]
    return turned


def cells_of_picture(board, cells, order, k):
    """The cells of the k-th picture, where squares are compared in this order; None if there are no more."""
    cells = looked_over(board, cells)
    if cells is None or count_up_to(board, cells, k + 1) <= k:
        return None
    for at in order:
        while is_open(cells[at]):
            lowest = cells[at] & -cells[at]
            branch = with_cell_for_good(board, cells, at, lowest)
            many = 0 if branch is None else count_up_to(board, branch, k + 1)
            if many > k:
                cells = branch
            else:
                k -= many
                cells = with_cell_for_good(board, cells, at, cells[at] - lowest)
    return cells


def number_of_pictures(board, cells, most):
    """How many pictures fit, but most where there are more."""
    cells = looked_over(board, cells)
    return 0 if cells is None else min(most, count_up_to(board, cells, most))


def looked_over(board, cells):
    """What the lines leave of the cells; None if it is plain without a search that no picture fits."""
    found = settled(board, cells, board["numbers"])
    return found if found is not None and cuts_agree(board, found) else None


def with_cell_for_good(board, cells, at, cell):
    """The same as with_cell, and what was counted from the cell's row on, or from one ahead of it, holds no more."""
    for row in range(at // board["width"] + 1):
        board["changes"][row] += 1
    return with_cell(board, cells, at, cell)


def cuts_agree(board, cells):
    """Whether rows and columns can colour as many squares as one another ahead of every cut through the board.

    No line by itself can see this, and the search would see it last of all.
    """
    height = board["height"]
    spreads = [spread_of(board, cells, number) for number in board["numbers"]]
    across = [cut_agrees(spreads[:height], board["told"][height:][:cut]) for cut in range(1, board["width"] + 1)]
    along = [cut_agrees(spreads[height:], board["told"][:cut]) for cut in range(1, height + 1)]
    return all(across) and all(along)


def spread_of(board, cells, number):
    """Of each run of a line: its length, its colour, and where it begins at the earliest and at the latest."""
    runs = board["told"][number]
    span = board["spans"][number]
    begins = places_that_fit(runs, cells[span[0]:span[1]:span[2]])["begins"]
    return [(runs[2 * at], runs[2 * at + 1], (places & -places).bit_length() - 1, places.bit_length() - 1)
            for at, places in enumerate(begins)]


def cut_agrees(spreads, told_ahead):
    """Whether the lines that a cut goes through can have ahead of it what the lines ahead of it are told."""
    cut = len(told_ahead)
    least = [0] * (MOST_COLOUR + 1)
    most = [0] * (MOST_COLOUR + 1)
    for spread in spreads:
        for run in spread:
            least[run[1]] += min(run[0], max(0, cut - run[3]))
            most[run[1]] += min(run[0], max(0, cut - run[2]))
    coloured = squares_coloured(told_ahead)
    return all([least[colour] <= many and many <= most[colour] for colour, many in enumerate(coloured)])


def count_up_to(board, cells, enough):
    """How many pictures fit; if there are enough, some number that isn't lower than that."""
    levels = [{"key": None, "at": 0, "waiting": [cells], "many": 0}]
    while True:
        level = levels[-1]
        if level["waiting"] and level["many"] < enough:
            enter(board, levels, level["waiting"].pop())
        elif len(levels) == 1:
            return level["many"]
        else:
            levels.pop()
            keep(board["counts"], level["key"], level["many"])
            levels[-1]["many"] += level["many"]


def enter(board, levels, cells):
    """Adds the cells' pictures to the last level, or lays a level upon it that will."""
    level = levels[-1]
    at = level["at"]
    while at < len(cells) and not is_open(cells[at]):
        at += 1
    if at == len(cells):
        level["many"] += 1
        return
    key = key_of(board, cells, at)
    many = kept(board["counts"], key)
    if many is None:
        levels.append({"key": key, "at": at, "waiting": branches(board, cells, at), "many": 0})
    else:
        level["many"] += many


def branches(board, cells, at):
    """What follows from each square that the cell allows, the lowest last, as the last is taken up first."""
    bits = [1 << square for square in range(MOST_COLOUR, -1, -1)]
    found = [with_cell(board, cells, at, bit) for bit in bits if cells[at] & bit]
    return [branch for branch in found if branch is not None]


def key_of(board, cells, at):
    """All that the number of pictures hangs on, from an open cell on, if none is open ahead of it.

    That is where this cell lies, how often its row or one behind it was changed for good, and of each column how many
    blanks it has ahead: as its runs come in the order told, this says how far they have come. Whether the last of them
    may touch the next is seen by its next cell, and how far the open row has come by all the columns together.
    """
    width = board["width"]
    key = [at, board["changes"][at // width]]
    for place in range(at, at + width):
        blanks = cells[place % width:at:width].count(BLANK)
        key.append(2 * blanks + (1 if cells[place:place + 1] == [BLANK] else 0))
    return tuple(key)
