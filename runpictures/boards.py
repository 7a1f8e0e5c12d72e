"""The lines of a puzzle, and what they make of their cells together."""

from runpictures.lines import narrowed


def is_open(cell):
    """Whether more than one square is allowed."""
    return cell & (cell - 1) > 0


def board_of(told, width, height):
    """A puzzle's lines, rows first: their runs, where their cells lie, and what was found of them so far."""
    rows = [(row * width, row * width + width, 1) for row in range(height)]
    columns = [(column, width * height, width) for column in range(width)]
    return {"width": width, "height": height, "numbers": list(range(width + height)), "told": told,
            "spans": rows + columns, "lines": [{} for runs in told], "counts": {}}


def settled(board, cells, numbers):
    """The cells when neither these lines nor those that they touch change one any more; None if a line never fits."""
    cells = list(cells)
    while numbers:
        touched = {}
        for number in numbers:
            span = board["spans"][number]
            before = tuple(cells[span[0]:span[1]:span[2]])
            found = line_found(board, number, before)
            if found is None:
                return None
            first_across = board["height"] if number < board["height"] else 0
            for place, cell in enumerate(found):
                if cell != before[place]:
                    cells[span[0] + place * span[2]] = cell
                    touched[first_across + place] = True
        numbers = list(touched)
    return cells


def line_found(board, number, before):
    """What a line makes of its cells; kept for this board, as the same cells come again and again."""
    kept = board["lines"][number]
    if before not in kept:
        found = narrowed(board["told"][number], before)
        kept[before] = None if found is None else tuple(found)
    return kept[before]


def with_cell(board, cells, at, cell):
    """The cells with this one in its place and all that follows from it; None if nothing fits then."""
    changed = list(cells)
    changed[at] = cell
    return settled(board, changed, [at // board["width"], board["height"] + at % board["width"]])
