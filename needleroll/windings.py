"""Strips that are wound round a rod, and the cells that a needle pricks."""

from needleroll.fraction import common_multiple, is_fraction, is_whole, lowest

# The least and the greatest number of cells.
STRIP = (1, 24)

# The least and the greatest girth, growth and end.
BOUNDS = ((4, 16), (0, 8), (0, 1))

# A cell's length; all lengths are counted in halves, so that they are whole numbers.
CELL = 2


def is_within(thing, bounds):
    """Whether thing, which may be anything, is a whole number from the one bound to the other."""
    low, high = bounds
    return is_whole(thing) and low <= thing <= high


def is_strip(thing):
    """Whether thing, which may be anything, is a number of cells that a strip can have."""
    return is_within(thing, STRIP)


def is_winding(thing):
    """Whether thing, which may be anything, is a winding."""
    if not isinstance(thing, tuple) or len(thing) != len(BOUNDS):
        return False
    return all([is_within(part, bounds) for part, bounds in zip(thing, BOUNDS)])


def is_angle(thing):
    """Whether thing, which may be anything, is an angle."""
    return is_fraction(thing) and 0 <= thing[0] < thing[1]


def all_windings():
    """All windings, rising."""
    girths, growths, ends = [list(range(low, high + 1)) for low, high in BOUNDS]
    return [(girth, growth, end) for girth in girths for growth in growths for end in ends]


def turns(many, winding):
    """Of each turn that has some of the strip, the innermost first: where it begins, and its whole length."""
    girth, growth, end = winding
    begin = 0
    length = girth
    rows = []
    # No winding has a turn without length; on such turns the strip would never end.
    while begin < CELL * many and length > 0:
        rows.append((begin, length))
        begin += length
        length += growth
    return rows


def cell_at(many, winding, place):
    """The cell that has so many others wound ahead of it."""
    return many - 1 - place if winding[2] == 1 else place


def pricked(many, winding, angle):
    """The cells that a needle at the angle pricks, rising."""
    top, bottom = angle
    places = [(begin * bottom + length * top) // (CELL * bottom) for begin, length in turns(many, winding)]
    # The strip may end on the outermost turn ahead of the angle, or at it: then no cell is there.
    return sorted({cell_at(many, winding, place) for place in places if place < many})


def marks(many, rows, whole):
    """The angles at which a cell begins or ends on one of the turns, and 0, rising, as tops over the bottom whole."""
    found = {0}
    for begin, length in rows:
        for place in range(many + 1):
            behind = CELL * place - begin
            if 0 <= behind < length:
                found.add(behind * (whole // length))
    return sorted(found)


def stretches(many, winding):
    """The tuples (from, to, cells) of the angles from 0 to 1 at which a needle pricks just these cells, rising."""
    rows = turns(many, winding)
    whole = common_multiple([length for begin, length in rows])
    tops = marks(many, rows, whole)
    told = []
    # Each turn is longer than a cell, so no cell that ends at a mark begins there too, on another turn:
    # at each mark the cells become other ones, and no two stretches next to each other are to be joined.
    for top, after in zip(tops, tops[1:] + [whole]):
        cells = tuple(pricked(many, winding, (top, whole)))
        told.append((lowest(top, whole), lowest(after, whole), cells))
    return told
