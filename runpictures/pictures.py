"""Which pictures fit a board."""

from runpictures.boards import board_of, is_open, settled, with_cell
from runpictures.lines import MOST_COLOUR, squares_coloured

BLANK = 1


def narrow_board(told, width, height, cells):
    """A puzzle's board and its cells, turned if its rows are longer than its columns: short rows leave less to count.

    order says where the squares, row by row as they were told, lie on that board.
    """
    order = list(range(width * height))
    if width <= height:
        return {"board": board_of(told, width, height), "cells": cells[:len(order)], "order": order}
    return {"board": board_of(told[height:] + told[:height], height, width),
            "cells": column_by_column(cells[:len(order)], width), "order": column_by_column(order, height)}


def column_by_column(cells, width):
    turned = []
    for column in range(width):
        turned = turned + cells[column::width]
    return turned


def cells_of_picture(board, cells, order, k):
    """The cells of the k-th picture, where squares are compared in this order; None if there are no more."""
    told = board["told"]
    # No line by itself can see this, and the search would see it last of all.
    if squares_coloured(told[:board["height"]]) != squares_coloured(told[board["height"]:]):
        return None
    cells = settled(board, cells, board["numbers"])
    if cells is None or count_up_to(board, cells, k + 1) <= k:
        return None
    for at in order:
        while is_open(cells[at]):
            lowest = cells[at] & -cells[at]
            branch = with_cell(board, cells, at, lowest)
            many = 0 if branch is None else count_up_to(board, branch, k + 1)
            if many > k:
                cells = branch
            else:
                k -= many
                cells = with_cell(board, cells, at, cells[at] - lowest)
    return cells


def count_up_to(board, cells, enough):
    """How many pictures fit; if there are enough, some number that isn't lower than that."""
    levels = [{"key": None, "at": 0, "waiting": [cells], "many": 0}]
    while True:
        level = levels[-1]
        if level["waiting"] and level["many"] < enough:
            enter(board, levels, level["waiting"].pop())
        elif len(levels) == 1:
            return level["many"]
        else:
            levels.pop()
            board["counts"][level["key"]] = level["many"]
            levels[-1]["many"] += level["many"]


def enter(board, levels, cells):
    """Adds the cells' pictures to the last level, or lays a level upon it that will."""
    level = levels[-1]
    at = level["at"]
    while at < len(cells) and not is_open(cells[at]):
        at += 1
    if at == len(cells):
        level["many"] += 1
        return
    key = key_of(board["width"], cells, at)
    if key in board["counts"]:
        level["many"] += board["counts"][key]
        return
    levels.append({"key": key, "at": at, "waiting": branches(board, cells, at), "many": 0})


def branches(board, cells, at):
    """What follows from each square that the cell allows, the lowest last, as the last is taken up first."""
    bits = [1 << square for square in range(MOST_COLOUR, -1, -1)]
    found = [with_cell(board, cells, at, bit) for bit in bits if cells[at] & bit]
    return [branch for branch in found if branch is not None]


def key_of(width, cells, at):
    """All that the pictures hang on from an open cell on, if none is open ahead of it.

    That is the cells from there on, and of each column how many blanks it has ahead: as its runs come in the order
    told, this says how far they have come. Whether the last of them may touch the next is seen by the cells, and
    how far the open row has come by all the columns together.
    """
    blanks = [cells[column:at:width].count(BLANK) for column in range(width)]
    return tuple(blanks + cells[at:])
