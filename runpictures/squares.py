"""What can be known of the squares of a picture that is told by its runs."""

MOST_SIDE = 64
MOST_RUNS = 64
MOST_LENGTH = 64
MOST_COLOUR = 7
MOST_BYTES = 16384
BLANK = 1


def line(runs, cells):
    """How many lines fit the runs told, and what each cell's square is in some of them."""
    if len(runs) > 2 * MOST_RUNS or not within(len(cells), 1, MOST_SIDE):
        return [-1]
    if not runs_are_told(runs) or 0 in cells:
        return [-2]
    ahead = ways(runs, cells)
    many = ahead["rows"][-1][-1]
    if many == 0:
        return [-3]
    behind = ways(runs_turned(runs), list(reversed(cells)))
    found = cells_found(runs, cells, ahead, behind)
    changed = 1 if found != cells else 0
    return [changed, len(found)] + found + [1, many]


def look(puzzle):
    """The width, the height, and how many more squares the rows colour than the columns."""
    if not within(len(puzzle), 1, MOST_BYTES):
        return [-1]
    told = lines_told(puzzle)
    if told is None:
        return [-2]
    width = puzzle[0]
    height = puzzle[1]
    return [0, 3, width, height, squares_coloured(told[:height]) - squares_coloured(told[height:])]


def within(number, low, high):
    return low <= number and number <= high


def runs_are_told(runs):
    """Whether each pair is a length and a colour that a run may have."""
    for at in range(0, len(runs), 2):
        if not within(runs[at], 1, MOST_LENGTH) or not within(runs[at + 1], 1, MOST_COLOUR):
            return False
    return True


def runs_turned(runs):
    """The runs as they are met from the line's other end."""
    turned = []
    for at in range(len(runs) - 2, -1, -2):
        turned.append(runs[at])
        turned.append(runs[at + 1])
    return turned


def ways(runs, cells):
    """In how many ways the first runs lie in the first cells.

    rows[j][i]: the first j runs, and blanks else, fill the first i cells.
    entries[j][i]: the same, where run j may also begin right at cell i.
    """
    rows = [row_without_run(cells)]
    entries = []
    for at in range(0, len(runs), 2):
        apart = at > 0 and runs[at - 1] == runs[at + 1]
        entry = entry_behind(rows[-1], cells, apart)
        entries.append(entry)
        rows.append(row_with_run(entry, runs[at], stretches(cells, runs[at + 1]), cells))
    return {"rows": rows, "entries": entries}


def row_without_run(cells):
    row = [1]
    for cell in cells:
        row.append(row[-1] if cell & BLANK else 0)
    return row


def entry_behind(row, cells, apart):
    """The ways of the row, but those alone that end with a blank where runs must stay apart."""
    if not apart:
        return list(row)
    entry = [0]
    for at, cell in enumerate(cells):
        entry.append(row[at] if cell & BLANK else 0)
    return entry


def row_with_run(entry, length, reach, cells):
    row = [0]
    for end in range(1, len(cells) + 1):
        many = row[-1] if cells[end - 1] & BLANK else 0
        if reach[end] >= length:
            many += entry[end - length]
        row.append(many)
    return row


def stretches(cells, colour):
    """For each place how many cells side by side, up to it, allow the colour."""
    reach = [0]
    for cell in cells:
        reach.append(reach[-1] + 1 if cell & (1 << colour) else 0)
    return reach


def cells_found(runs, cells, ahead, behind):
    """Each cell with those bits alone that its square has in some line that fits."""
    found = [BLANK if blank_stands(at, cells, ahead["rows"], behind["rows"]) else 0 for at in range(len(cells))]
    last = len(ahead["entries"]) - 1
    for number, entry in enumerate(ahead["entries"]):
        length = runs[2 * number]
        colour = runs[2 * number + 1]
        ends = run_ends(length, stretches(cells, colour), entry, behind["entries"][last - number])
        mark_run(found, length, 1 << colour, ends)
    return found


def blank_stands(at, cells, rows_ahead, rows_behind):
    """Whether the square is blank in some line that fits, however the runs are shared out round it."""
    if not cells[at] & BLANK:
        return False
    rest = len(cells) - 1 - at
    last = len(rows_ahead) - 1
    for number, row in enumerate(rows_ahead):
        if row[at] > 0 and rows_behind[last - number][rest] > 0:
            return True
    return False


def run_ends(length, reach, entry_ahead, entry_after):
    """The places behind a run's last square, in the lines that fit, in order."""
    size = len(reach) - 1
    ends = []
    for end in range(length, size + 1):
        if reach[end] >= length and entry_ahead[end - length] > 0 and entry_after[size - end] > 0:
            ends.append(end)
    return ends


def mark_run(found, length, bit, ends):
    # Places overlap: what an earlier one marked is not walked again.
    done = 0
    for end in ends:
        for at in range(max(done, end - length), end):
            found[at] = found[at] | bit
        done = end


def lines_told(puzzle):
    """The runs of each row, then of each column; None if the puzzle isn't as told."""
    if len(puzzle) < 2 or not within(puzzle[0], 1, MOST_SIDE) or not within(puzzle[1], 1, MOST_SIDE):
        return None
    told = []
    start = 2
    while len(told) < puzzle[0] + puzzle[1]:
        if start >= len(puzzle):
            return None
        end = start + 1 + 2 * puzzle[start]
        if end > len(puzzle):
            return None
        runs = puzzle[start + 1:end]
        if not runs_are_told(runs):
            return None
        told.append(runs)
        start = end
    return told if start == len(puzzle) else None


def squares_coloured(told):
    many = 0
    for runs in told:
        for at in range(0, len(runs), 2):
            many += runs[at]
    return many
