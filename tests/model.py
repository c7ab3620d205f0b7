"""What DOC.md says of windings, told over again in the slowest and plainest way, to hold the package against."""

from fractions import Fraction

LENGTHS = range(1, 25)
WINDINGS = [(girth, growth, end) for girth in range(4, 17) for growth in range(9) for end in (0, 1)]

# Few enough to be asked at length; every bound of girth and growth is among them.
SOME_WINDINGS = [
    (girth, growth, end)
    for girth, growth in [(4, 0), (4, 1), (4, 8), (5, 0), (5, 2), (7, 3), (9, 1), (16, 0), (16, 8)]
    for end in (0, 1)
]


def turn_bounds(many, winding):
    """Begin and end of each turn, in halves, as far out as the strip goes."""
    girth, growth, end = winding
    bounds = []
    begin, length = 0, girth
    while begin < 2 * many:
        bounds.append((begin, begin + length))
        begin, length = begin + length, length + growth
    return bounds


def cell_parts(many, winding):
    """The parts (cell, from, to) of each cell, cut where a turn ends: from and to are angles, to perhaps 1."""
    order = list(range(many))
    if winding[2] == 1:
        order.reverse()
    parts = []
    for at, cell in enumerate(order):
        for begin, end in turn_bounds(many, winding):
            low, high = max(2 * at, begin), min(2 * at + 2, end)
            if low < high:
                parts.append((cell, Fraction(low - begin, end - begin), Fraction(high - begin, end - begin)))
    return parts


def cells_through(parts, angle):
    return sorted({cell for cell, low, high in parts if low <= angle < high})


def pricked(many, winding, angle):
    return cells_through(cell_parts(many, winding), Fraction(*angle))


def pair(worth):
    return (worth.numerator, worth.denominator)


def stretches(many, winding):
    parts = cell_parts(many, winding)
    edges = sorted({Fraction(0), Fraction(1)} | {low for _, low, _ in parts} | {high for _, _, high in parts})
    told = []
    for low, high in zip(edges, edges[1:]):
        cells = tuple(cells_through(parts, low))
        if told and told[-1][2] == cells:
            low = told.pop()[0]
        told.append((low, high, cells))
    return [(pair(low), pair(high), cells) for low, high, cells in told]


def subsets(many):
    return [tuple(cell for cell in range(many) if mask >> cell & 1) for mask in range(1 << many)]


def makeable(many, winding, wished):
    """All holes that harmless needles make: within each stretch one needle is as good as another."""
    holes = set()
    for _, _, cells in stretches(many, winding):
        if set(cells) <= set(wished):
            holes |= set(cells)
    return tuple(sorted(holes))


def barred(many, winding, wished):
    made = makeable(many, winding, wished)
    told = []
    for cell in sorted(set(wished) - set(made)):
        through = [cells for _, _, cells in stretches(many, winding) if cell in cells]
        told.append((cell, tuple(min(set(cells) - set(wished)) for cells in through)))
    return told


def harmless(many, winding, wished):
    """Of each harmless stretch the cells, as a set, in their order."""
    return [set(cells) for _, _, cells in stretches(many, winding) if set(cells) <= set(wished)]


def fewest(many, winding, wished):
    """How many pricks it takes, by going through all holes that one, two, three .. harmless needles make."""
    groups = [frozenset(cells) for cells in harmless(many, winding, wished)]
    reached = {frozenset()}
    for number in range(many + 1):
        if frozenset(wished) in reached:
            return number
        reached |= {holes | group for holes in reached for group in groups}
    return None


def is_cell(thing, wished):
    return type(thing) is int and thing in wished


def is_family(thing, wished, through, groups):
    if type(thing) is not tuple or not all(is_cell(cell, wished) for cell in thing):
        return False
    if any(one >= other for one, other in zip(thing, thing[1:])):
        return False
    return not through & set(thing) and all(len(group & set(thing)) < 2 for group in groups)


def shown(many, winding, wished, thing):
    if makeable(many, winding, wished) != wished or type(thing) is not tuple:
        return None
    if wished == ():
        return 0 if thing == () else None
    if len(thing) != 2 or not is_cell(thing[0], wished) or type(thing[1]) is not tuple:
        return None
    groups = harmless(many, winding, wished)
    needed = [group for group in groups if thing[0] in group]
    if len(needed) != len(thing[1]):
        return None
    if not all(is_family(family, wished, through, groups) for family, through in zip(thing[1], needed)):
        return None
    return 1 + min(len(family) for family in thing[1])


def light(many, winding, holes):
    """The stretches without harm, joined where they touch: each as long as the next one begins where it ends."""
    rows = [(begin, end) for begin, end, cells in stretches(many, winding) if set(cells) <= set(holes)]
    begins = {begin for begin, _ in rows}
    ends = {end for _, end in rows}
    froms = [begin for begin, _ in rows if begin not in ends]
    return list(zip(froms, [end for _, end in rows if end not in begins]))


def backward(many, cells):
    return tuple(sorted(many - 1 - cell for cell in cells))


# Of what point 2 says that anything is made of, with some that only look like what is asked for.
ANYTHING = [
    None, True, False, 0, 1, -1, 4, 24, 10 ** 20 - 1, 1 - 10 ** 20, "", "0", "4", "(4, 0, 0)", "x" * 100,
    [], (), [0], (0,), (None,), [[]], ((),), ([],), [None] * 300, (0,) * 300, ("",) * 300, tuple(range(300)),
    [[[[[[1]]]]]], ((((((1,),),),),),), ([([([1],)],)],), (0, 1, 2), [0, 1, 2], (True, False), (0, ()), [0, []],
    (0, None), (0, "ab"), (0, 5), (0, [()]), (0, ((),)), ((0,), (1,)), ("0", ((),)), (10 ** 19, ((10 ** 19,),)),
]
