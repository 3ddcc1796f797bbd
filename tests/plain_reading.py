"""DOC.md's "Packets" and "All on one place", read word by word: what the tests hold the program against.

It shares nothing with the package. Where squares lie, how they're turned and what's at each side
of a place doesn't hang on the row, so it's found once for each sheet.
"""

from functools import lru_cache
from itertools import combinations_with_replacement, islice, permutations, product

RIGHT, LEFT, UP, DOWN = "right", "left", "up", "down"
SIDES = (RIGHT, LEFT, UP, DOWN)
OTHER = {RIGHT: LEFT, LEFT: RIGHT, UP: DOWN, DOWN: UP}
STEP = {RIGHT: (1, 0), LEFT: (-1, 0), UP: (0, 1), DOWN: (0, -1)}
ENDS, TURNS, GOES_ON = "ends", "turns", "goes on"
FLAT, FOLDED, NEITHER = "flat", "folded", "neither"
MOUNTAIN, VALLEY = 1, 2

SHEETS = [(w, h) for w in range(1, 7) for h in range(1, 7) if w * h <= 9]


class Lying:
    """Where a square lies and how it is turned."""

    def __init__(self, place, left_right, bottom_top):
        self.place = place
        self.left_right = left_right
        self.bottom_top = bottom_top

    def front_up(self):
        return self.left_right == self.bottom_top

    def edge_at(self, side):
        """Which of the square's edges lies at that side of its place."""
        turned = self.left_right if side in (RIGHT, LEFT) else self.bottom_top
        return OTHER[side] if turned else side


class Sheet:
    """A sheet of w by h squares that lie all on the place 0, 0."""

    def __init__(self, w, h):
        self.w = w
        self.h = h
        self.squares = range(w * h)
        self.lying = [Lying((0, 0), c % w % 2, c // w % 2) for c in self.squares]
        self.at = {side: [self.what_is_at(c, side) for c in self.squares] for side in SIDES}
        self.rights = [(c, self.beside(c, RIGHT)) for c in self.squares if self.beside(c, RIGHT) is not None]
        self.aboves = [(c, self.beside(c, UP)) for c in self.squares if self.beside(c, UP) is not None]
        self.wrongly_joined = sorted(
            [c for c, d in self.rights if self.joint(c, d, RIGHT) == NEITHER]
            + [c for c, d in self.aboves if self.joint(c, d, UP) == NEITHER]
        )

    def beside(self, c, edge):
        x, y = c % self.w + STEP[edge][0], c // self.w + STEP[edge][1]
        if 0 <= x < self.w and 0 <= y < self.h:
            return self.w * y + x
        return None

    def what_is_at(self, c, side):
        other = self.beside(c, self.lying[c].edge_at(side))
        if other is None:
            return ENDS, None
        if self.lying[other].place == self.lying[c].place:
            return TURNS, other
        return GOES_ON, other

    def joint(self, c, d, edge):
        one, other = self.lying[c], self.lying[d]
        if edge == RIGHT:
            along, alike = (one.left_right, other.left_right), one.bottom_top == other.bottom_top
        else:
            along, alike = (one.bottom_top, other.bottom_top), one.left_right == other.left_right
        back = -1 if along[0] else 1
        next_place = (one.place[0] + back * STEP[edge][0], one.place[1] + back * STEP[edge][1])
        if other.place == next_place and along[0] == along[1] and alike:
            return FLAT
        if other.place == one.place and along[0] != along[1] and alike:
            return FOLDED
        return NEITHER

    def fault(self, layers):
        """None if the packet is right, else the fault that counts and its lowest square."""
        if self.wrongly_joined:
            return 1, self.wrongly_joined[0]
        for c in self.squares:
            there = [layers[d] for d in self.squares if self.lying[d].place == self.lying[c].place]
            if sorted(there) != list(range(len(there))):
                return 2, c
        for c in self.squares:
            for d in self.squares[c + 1:]:
                if self.lying[d].place == self.lying[c].place and self.go_through(layers, c, d):
                    return 3, c
        return None

    def go_through(self, layers, c, d):
        return any(through_at(layers, c, d, self.at[side][c], self.at[side][d]) for side in SIDES)

    def creases(self, layers):
        return [self.crease(layers, c, d, RIGHT) for c, d in self.rights] + [
            self.crease(layers, c, d, UP) for c, d in self.aboves
        ]

    def crease(self, layers, c, d, edge):
        if self.joint(c, d, edge) == FLAT:
            return 0
        (up,) = [e for e in (c, d) if self.lying[e].front_up()]
        (down,) = [e for e in (c, d) if not self.lying[e].front_up()]
        return VALLEY if layers[up] < layers[down] else MOUNTAIN


def between(layer, one, other):
    return min(one, other) < layer < max(one, other)


def through_at(layers, c, d, of_c, of_d):
    """Fault 3 of c and d at one side of their place."""
    (c_does, c_to), (d_does, d_to) = of_c, of_d
    if c_does == TURNS and d_does == TURNS:
        within = [between(layers[e], layers[c], layers[c_to]) for e in (d, d_to)]
        return d != c_to and within.count(True) == 1
    if c_does == TURNS and d_does == GOES_ON:
        return between(layers[d], layers[c], layers[c_to])
    if c_does == GOES_ON and d_does == TURNS:
        return between(layers[c], layers[d], layers[d_to])
    if c_does == GOES_ON and d_does == GOES_ON:
        return (layers[d] > layers[c]) != (layers[d_to] > layers[c_to])
    return False


def layers_of(row):
    return [row.index(c) for c in range(len(row))]


def judged(sheet, row):
    """What judge is to answer for a row that is each square of the sheet once."""
    fault = sheet.fault(layers_of(row))
    if fault is None:
        return [0]
    if fault[0] != 3:
        raise ValueError("on one place only fault 3 can come up")
    return [-5, fault[1]]


def creased(sheet, row):
    """What creases is to answer for a row that is each square of the sheet once."""
    answer = judged(sheet, row)
    if answer != [0]:
        return answer
    told = sheet.creases(layers_of(row))
    return [0, len(told)] + told


@lru_cache(maxsize=None)
def rows_that_can_be(w, h):
    """Every row there is of the sheet, gone through one by one: those that can be, as tuples, in order."""
    sheet = Sheet(w, h)
    return tuple(sorted(row for row in permutations(range(w * h)) if sheet.fault(layers_of(row)) is None))


def how_many_creases(w, h):
    return (w - 1) * h + w * (h - 1)


@lru_cache(maxsize=None)
def creases_that_can_be(w, h):
    """The creases of each row that can be, in the rows' order."""
    sheet = Sheet(w, h)
    return tuple(tuple(sheet.creases(layers_of(row))) for row in rows_that_can_be(w, h))


def corners(w, h, creases):
    """The four creases around each corner within the sheet."""
    across, upright = creases[: (w - 1) * h], creases[(w - 1) * h:]
    return [
        (
            across[(w - 1) * y + x], across[(w - 1) * (y + 1) + x],
            upright[w * y + x], upright[w * y + x + 1],
        )
        for x in range(w - 1) for y in range(h - 1)
    ]


def as_told(creases, told):
    return all(asked == 0 or asked == crease for crease, asked in zip(creases, told, strict=True))


def rows_that_fit(w, h, told):
    """The rows that can be and fit the told creases, as tuples, in order."""
    both = zip(rows_that_can_be(w, h), creases_that_can_be(w, h), strict=True)
    return [row for row, creases in both if as_told(creases, told)]


def how_many_fit(w, h, told):
    return len(rows_that_fit(w, h, told))


def every_way_to_tell(w, h):
    return map(list, product((0, 1, 2), repeat=how_many_creases(w, h)))


def mountains_for_valleys(told):
    return [(0, 2, 1)[crease] for crease in told]


def some_told(w, h):
    """One or two creases told alone, and what some rows have, whole and with every second, third or fifth left open."""
    length = how_many_creases(w, h)
    for at, other in combinations_with_replacement(range(length), 2):
        told = [0] * length
        told[other] = 1 + (at + other) % 2
        told[at] = 1 + at % 2
        yield told
    for creases in islice(creases_that_can_be(w, h), 0, None, 61):
        for gap in (2, 3, 5, length + 1):
            yield [0 if at % gap == gap - 1 else crease for at, crease in enumerate(creases)]
