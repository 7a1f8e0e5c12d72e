"""What a line's runs and its cells say of its squares."""

MOST_COLOUR = 7


def runs_of(squares):
    """The runs of a line: of each its length, then its colour."""
    runs = []
    before = 0
    for square in squares:
        if square > 0 and square == before:
            runs[-2] += 1
        elif square > 0:
            runs.extend([1, square])
        before = square
    return runs


def apart(runs, at):
    """Whether a blank must lie between a run and the one ahead of it."""
    return 0 < at and at < len(runs) and runs[at - 1] == runs[at + 1]


def squares_coloured(told):
    """How many squares of each colour these lines have."""
    many = [0] * (MOST_COLOUR + 1)
    for runs in told:
        for at in range(0, len(runs), 2):
            many[runs[at + 1]] += runs[at]
    return many


def places_allowed(cells, square):
    """Where the square may stand. Places are the bits of one number, so that all of them are moved at once."""
    return sum([((cell >> square) & 1) << at for at, cell in enumerate(cells)])


def room_for(cells, length, colour):
    """Where a run may begin, by the cells that it would cover."""
    places = places_allowed(cells, colour)
    room = places
    for step in range(1, length):
        room = room & (places >> step)
    return room


def lines_that_fit(runs, cells):
    """How many lines fit; row[i] says in how many ways the runs so far, and blanks else, fill the first i cells."""
    blank = places_allowed(cells, 0)
    row = summed_over_blanks([1] + [0] * len(cells), blank)
    for at in range(0, len(runs), 2):
        if apart(runs, at):
            row = moved(row, blank, 1)
        room = room_for(cells, runs[at], runs[at + 1])
        row = summed_over_blanks(moved(row, room, runs[at]), blank)
    return row[-1]


def moved(row, places, step):
    """The numbers that stand at these places, so many places further on."""
    kept = [many if (places >> at) & 1 else 0 for at, many in enumerate(row)]
    return ([0] * step + kept)[:len(row)]


def summed_over_blanks(row, blank):
    summed = [row[0]]
    for at, many in enumerate(row[1:]):
        summed.append(many + summed[-1] if (blank >> at) & 1 else many)
    return summed


def narrowed(runs, cells):
    """Each cell with those bits alone that its square has in some line that fits; None if none fits."""
    places = places_that_fit(runs, cells)
    if places is None:
        return None
    met = [places["blanks"]] + [0] * MOST_COLOUR
    for number, begins in enumerate(places["begins"]):
        colour = runs[2 * number + 1]
        met[colour] = met[colour] | stretched(begins, runs[2 * number])
    found = [0] * len(cells)
    for square, covered in enumerate(met):
        for at in range(covered.bit_length()):
            if (covered >> at) & 1:
                found[at] = found[at] | (1 << square)
    return found


def places_that_fit(runs, cells):
    """Where each run begins, and where blanks stand, in some line that fits; None if none fits."""
    blank = places_allowed(cells, 0)
    ahead = places_ahead(runs, cells, blank)
    begins = ahead["begins"]
    ends = ahead["ends"]
    if not (ends[-1] >> len(cells)) & 1:
        return None
    behind = back_over_blanks(1 << len(cells), blank)
    blanks = ends[-1] & blank & (behind >> 1)
    for number in range(len(begins) - 1, -1, -1):
        if apart(runs, 2 * number + 2):
            behind = blank & (behind >> 1)
        begins[number] = begins[number] & (behind >> runs[2 * number])
        behind = back_over_blanks(begins[number], blank)
        blanks = blanks | (ends[number] & blank & (behind >> 1))
    return {"begins": begins, "blanks": blanks}


def places_ahead(runs, cells, blank):
    """Where each run may begin, and how many cells the runs up to it can fill with blanks, by what is ahead alone."""
    begins = []
    ends = [over_blanks(1, blank)]
    for at in range(0, len(runs), 2):
        begin = (ends[-1] & blank) << 1 if apart(runs, at) else ends[-1]
        begins.append(begin & room_for(cells, runs[at], runs[at + 1]))
        ends.append(over_blanks(begins[-1] << runs[at], blank))
    return {"begins": begins, "ends": ends}


def over_blanks(places, blank):
    """The places, and those that are reached from them over blanks."""
    # The sum carries every place through its blanks at once, up to the first cell that is none.
    return places | ((blank + (places & blank)) ^ blank)


def back_over_blanks(places, blank):
    """The places, and those from which they are reached over blanks."""
    step = 1
    while blank > 0:
        places = places | (blank & (places >> step))
        blank = blank & (blank >> step)
        step = 2 * step
    return places


def stretched(places, length):
    """The cells that runs of this length cover if they begin at these places."""
    covered = places
    for step in range(1, length):
        covered = covered | (places << step)
    return covered
