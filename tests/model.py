"""What DOC.md says of windings, told over again in the slowest and plainest way, to hold the package against."""

from fractions import Fraction

LENGTHS = range(1, 25)
WINDINGS = [(girth, growth, end) for girth in range(4, 17) for growth in range(9) for end in (0, 1)]

# Few enough to be asked at length; every bound of girth and growth is among them.
SOME_WINDINGS = [
    (girth, growth, end)
    for girth, growth in [(4, 0), (4, 1), (4, 8), (5, 0), (5, 2), (7, 3), (9, 1), (16, 0), (16, 8)]
    for end in (0, 1)
]


def turn_bounds(many, winding):
    """Begin and end of each turn, in halves, as far out as the strip goes."""
    girth, growth, end = winding
    bounds = []
    begin, length = 0, girth
    while begin < 2 * many:
        bounds.append((begin, begin + length))
        begin, length = begin + length, length + growth
    return bounds


def cell_parts(many, winding):
    """The parts (cell, from, to) of each cell, cut where a turn ends: from and to are angles, to perhaps 1."""
    order = list(range(many))
    if winding[2] == 1:
        order.reverse()
    parts = []
    for at, cell in enumerate(order):
        for begin, end in turn_bounds(many, winding):
            low, high = max(2 * at, begin), min(2 * at + 2, end)
            if low < high:
                parts.append((cell, Fraction(low - begin, end - begin), Fraction(high - begin, end - begin)))
    return parts


def cells_through(parts, angle):
    return sorted({cell for cell, low, high in parts if low <= angle < high})


def pricked(many, winding, angle):
    return cells_through(cell_parts(many, winding), Fraction(*angle))


def pair(worth):
    return (worth.numerator, worth.denominator)


def stretches(many, winding):
    parts = cell_parts(many, winding)
    edges = sorted({Fraction(0), Fraction(1)} | {low for _, low, _ in parts} | {high for _, _, high in parts})
    told = []
    for low, high in zip(edges, edges[1:]):
        cells = tuple(cells_through(parts, low))
        if told and told[-1][2] == cells:
            low = told.pop()[0]
        told.append((low, high, cells))
    return [(pair(low), pair(high), cells) for low, high, cells in told]


def subsets(many):
    return [tuple(cell for cell in range(many) if mask >> cell & 1) for mask in range(1 << many)]


def makeable(many, winding, wished):
    """All holes that harmless needles make: within each stretch one needle is as good as another."""
    holes = set()
    for _, _, cells in stretches(many, winding):
        if set(cells) <= set(wished):
            holes |= set(cells)
    return tuple(sorted(holes))


def barred(many, winding, wished):
    made = makeable(many, winding, wished)
    told = []
    for cell in sorted(set(wished) - set(made)):
        through = [cells for _, _, cells in stretches(many, winding) if cell in cells]
        told.append((cell, tuple(min(set(cells) - set(wished)) for cells in through)))
    return told
