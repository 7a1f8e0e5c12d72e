"""The lines of a puzzle, and what they make of their cells together."""

from runpictures.lines import narrowed

# How much a board keeps of what its lines made of their cells, and of what was counted on it: as much as helps, and
# as leaves a call within some hundred megabytes however long it looks.
MOST_LINES = 100000
MOST_COUNTS = 1000000


def is_open(cell):
    """Whether more than one square is allowed."""
    return cell & (cell - 1) > 0


def board_of(told, width, height):
    """A puzzle's lines, rows first: their runs, where their cells lie, and what was found of them so far."""
    rows = [(row * width, row * width + width, 1) for row in range(height)]
    columns = [(column, width * height, width) for column in range(width)]
    return {"width": width, "height": height, "numbers": list(range(width + height)), "told": told,
            "spans": rows + columns, "lines": store_for(MOST_LINES), "counts": store_for(MOST_COUNTS),
            "changes": [0] * height}


def store_for(most):
    """A place for what was found, at most so much of it: a long search finds more than there is memory for."""
    return {"half": most // 2, "young": {}, "old": {}}


def keep(store, key, value):
    """Keeps the value. Once half of what may be kept is young, it grows old, and what was old goes."""
    if store["half"] == 0:
        return
    if len(store["young"]) >= store["half"]:
        store["old"] = store["young"]
        store["young"] = {}
    store["young"][key] = value


def kept(store, key):
    """What is kept under this key, and from now on among the young; None if nothing is."""
    if key in store["young"]:
        return store["young"][key]
    if key not in store["old"]:
        return None
    value = store["old"][key]
    keep(store, key, value)
    return value


def settled(board, cells, numbers):
    """The cells when neither these lines nor those that they touch change one any more; None if a line never fits."""
    cells = list(cells)
    spans = board["spans"]
    lines = board["lines"]
    while numbers:
        touched = {}
        for number in numbers:
            span = spans[number]
            before = tuple(cells[span[0]:span[1]:span[2]])
            found = kept(lines, (number, before))
            if found is None:
                found = line_found(board, number, before)
            if not found:
                return None
            if found == before:
                continue
            first_across = board["height"] if number < board["height"] else 0
            for place, cell in enumerate(found):
                if cell != before[place]:
                    cells[span[0] + place * span[2]] = cell
                    touched[first_across + place] = True
        numbers = list(touched)
    return cells


def line_found(board, number, before):
    """What a line makes of its cells, and no cell at all if no line fits; kept, as the same cells come again."""
    found = tuple(narrowed(board["told"][number], before) or [])
    keep(board["lines"], (number, before), found)
    return found


def with_cell(board, cells, at, cell):
    """The cells with this one in its place and all that follows from it; None if nothing fits then."""
    changed = list(cells)
    changed[at] = cell
    return settled(board, changed, [at // board["width"], board["height"] + at % board["width"]])
