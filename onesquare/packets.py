"""Packets of a sheet whose squares lie all on one place: which orders can be, and their creases."""

MOST_ALONG = 6
MOST_SQUARES = 9

ANSWERED = 0
NOT_OF_THE_SHEET = -1
THERE_IS_NONE = -2
CANNOT_BE = -5

EITHER = 0
MOUNTAIN = 1
VALLEY = 2


def is_sheet(w, h):
    return 1 <= w <= MOST_ALONG and 1 <= h <= MOST_ALONG and w * h <= MOST_SQUARES


def is_row(w, h, row):
    squares = w * h
    if len(row) != squares:
        return False
    met = [False] * squares
    for square in row:
        if square >= squares or met[square]:
            return False
        met[square] = True
    return True


def layers_of(row):
    layers = [0] * len(row)
    for layer, square in enumerate(row):
        layers[square] = layer
    return layers


def joined_line(line, side):
    # Every other column is turned, so the edge towards the next column lies at the
    # place's right (side 0) for even columns and at its left (side 1) for odd ones.
    # Rows go likewise with up (side 0) and down (side 1).
    if line % 2 == side:
        return line + 1
    return line - 1


def turns_across(w, h, side):
    """Of each square the one it turns to at the right (0) or left (1), None where the sheet ends."""
    turns = []
    for square in range(w * h):
        x = joined_line(square % w, side)
        turns.append(w * (square // w) + x if 0 <= x < w else None)
    return turns


def turns_upright(w, h, side):
    """Of each square the one it turns to above (0) or below (1), None where the sheet ends."""
    turns = []
    for square in range(w * h):
        y = joined_line(square // w, side)
        turns.append(w * y + square % w if 0 <= y < h else None)
    return turns


def turns_at_sides(w, h):
    return [turns_across(w, h, 0), turns_across(w, h, 1), turns_upright(w, h, 0), turns_upright(w, h, 1)]


def lies_between(layer, one, other):
    return one < layer < other or other < layer < one


def go_through(layers, turns, c, d):
    c_to = turns[c]
    d_to = turns[d]
    if c_to is None or d_to is None or d == c_to:
        return False
    d_within = lies_between(layers[d], layers[c], layers[c_to])
    d_to_within = lies_between(layers[d_to], layers[c], layers[c_to])
    return d_within != d_to_within


def is_at_fault(layers, sides, c):
    for d in range(c + 1, len(layers)):
        for turns in sides:
            if go_through(layers, turns, c, d):
                return True
    return False


def lowest_at_fault(w, h, row):
    """The lowest square of fault 3, None if the row can be.

    Faults 1 and 2 can't come up: on one place all squares beside one another
    are folded, and a row gives each layer once.
    """
    layers = layers_of(row)
    sides = turns_at_sides(w, h)
    for c in range(len(layers)):
        if is_at_fault(layers, sides, c):
            return c
    return None


def refusal(w, h, row):
    """The refusal of a row as it is answered, an empty list if the row can be."""
    if not is_sheet(w, h) or not is_row(w, h, row):
        return [NOT_OF_THE_SHEET]
    square = lowest_at_fault(w, h, row)
    if square is None:
        return []
    return [CANNOT_BE, square]


def folds(w, h):
    """The pairs of squares that a crease lies between, in the order of a packet's creases."""
    squares = w * h
    to_the_right = [(c, c + 1) for c in range(squares) if c % w + 1 < w]
    above = [(c, c + w) for c in range(squares) if c + w < squares]
    return to_the_right + above


def front_is_up(w, square):
    return square % w % 2 == square // w % 2


def crease_between(w, layers, c, d):
    front_up = c if front_is_up(w, c) else d
    front_down = d if front_is_up(w, c) else c
    if layers[front_up] < layers[front_down]:
        return VALLEY
    return MOUNTAIN


def creases_of(w, h, row):
    layers = layers_of(row)
    return [crease_between(w, layers, c, d) for c, d in folds(w, h)]


def closes_rightly(row, turns, square):
    """Whether the square laid on the row goes through nothing at that side."""
    if turns[square] not in row:
        return True
    # The fold down to the one it turns to shuts in all between: none of these may turn to one outside.
    between = row[row.index(turns[square]) + 1:]
    for other in between:
        if turns[other] is not None and turns[other] not in between:
            return False
    return True


def can_lie_on(row, sides, square):
    for turns in sides:
        if not closes_rightly(row, turns, square):
            return False
    return True


def with_one_more(rows, squares, sides):
    """Each row with each square on it that can lie there, still in order."""
    longer = []
    for row in rows:
        for square in range(squares):
            if square not in row and can_lie_on(row, sides, square):
                longer.append(row + [square])
    return longer


def rows_upon_square_0(w, h):
    """The rows that can be with square 0 at the bottom."""
    sides = turns_at_sides(w, h)
    rows = [[0]]
    for layer in range(1, w * h):
        rows = with_one_more(rows, w * h, sides)
    return rows


def rows_that_can_be(w, h):
    """All of them, each once and in order."""
    # The top put to the bottom, a row can be still: so each comes from one with square 0 at the bottom.
    rows = []
    for row in rows_upon_square_0(w, h):
        for top in range(len(row)):
            rows.append(row[top:] + row[:top])
    return sorted(rows)


def are_told_creases(w, h, told):
    return len(told) == len(folds(w, h)) and max(told, default=EITHER) <= VALLEY


def fits(w, h, row, told):
    for crease, asked in zip(creases_of(w, h, row), told):
        if asked != EITHER and asked != crease:
            return False
    return True


def rows_that_fit(w, h, told):
    """The rows that can be and fit the told creases, in order."""
    return [row for row in rows_that_can_be(w, h) if fits(w, h, row, told)]


def different_creases(w, h):
    """The rows of creases that some row that can be has, each once and in order."""
    met = {}
    for row in rows_that_can_be(w, h):
        met[tuple(creases_of(w, h, row))] = True
    return sorted(met)


def answered_row(row):
    """A row as it is answered: how many numbers it has stands ahead of them."""
    return [ANSWERED, len(row)] + list(row)


def answered_one_of(rows, k):
    """The k-th of the rows as it is answered, from 0 on; -2 if there's none."""
    if k >= len(rows):
        return [THERE_IS_NONE]
    return answered_row(rows[k])


def judge(w, h, row):
    """[0] if the row can be, else its refusal."""
    refused = refusal(w, h, row)
    if refused:
        return refused
    return [ANSWERED]


def creases(w, h, row):
    """0, how many creases the row has, and they; or the row's refusal."""
    refused = refusal(w, h, row)
    if refused:
        return refused
    return answered_row(creases_of(w, h, row))


def count(w, h):
    """0 and how many rows can be; or -1."""
    if not is_sheet(w, h):
        return [NOT_OF_THE_SHEET]
    return [ANSWERED, len(rows_that_can_be(w, h))]


def kth(w, h, k):
    """0, how many squares the k-th row that can be has, and they; or -1, or -2 if there's none."""
    if not is_sheet(w, h):
        return [NOT_OF_THE_SHEET]
    return answered_one_of(rows_that_can_be(w, h), k)


def number(w, h, row):
    """0 and which one the row is of those that can be, from 0 on; or -1, or -2 if it can't be."""
    if not is_sheet(w, h) or not is_row(w, h, row):
        return [NOT_OF_THE_SHEET]
    if lowest_at_fault(w, h, row) is not None:
        return [THERE_IS_NONE]
    return [ANSWERED, rows_that_can_be(w, h).index(row)]


def many(w, h, creases):
    """0 and how many rows that can be fit the told creases; or -1."""
    if not is_sheet(w, h) or not are_told_creases(w, h, creases):
        return [NOT_OF_THE_SHEET]
    return [ANSWERED, len(rows_that_fit(w, h, creases))]


def first(w, h, k, creases):
    """0, how many squares the k-th row that can be and fits the told creases has, and they; or -1, or -2."""
    if not is_sheet(w, h) or not are_told_creases(w, h, creases):
        return [NOT_OF_THE_SHEET]
    return answered_one_of(rows_that_fit(w, h, creases), k)


def patterns(w, h):
    """0 and how many different rows of creases the rows that can be have; or -1."""
    if not is_sheet(w, h):
        return [NOT_OF_THE_SHEET]
    return [ANSWERED, len(different_creases(w, h))]


def pattern(w, h, k):
    """0, how many creases there are, and they as in the k-th of the different rows of creases; or -1, or -2."""
    if not is_sheet(w, h):
        return [NOT_OF_THE_SHEET]
    return answered_one_of(different_creases(w, h), k)


def beneath(w, h, c, d, creases):
    """0 and in how many rows that can be and fit the told creases c lies below d; or -1."""
    if not is_sheet(w, h) or max(c, d) >= w * h or not are_told_creases(w, h, creases):
        return [NOT_OF_THE_SHEET]
    below = [row for row in rows_that_fit(w, h, creases) if row.index(c) < row.index(d)]
    return [ANSWERED, len(below)]
