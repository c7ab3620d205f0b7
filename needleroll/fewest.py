"""The fewest pricks that make just the wished cells, and the papers that show that no fewer do."""

from needleroll.fraction import is_whole
from needleroll.wishes import harmless


def groups_of(rows):
    """Of each of the stretches the cells that it pricks."""
    return [cells for begin, after, cells in rows]


def places_of(groups, cell):
    """The places of the groups that have the cell."""
    return [place for place, cells in enumerate(groups) if cell in cells]


def some_barred(groups, wished):
    """Whether some wished cell is in none of the groups."""
    return any([not places_of(groups, cell) for cell in wished])


def plan(groups, wished, first):
    """With one prick at the place first: the places of as few as can be, rising, and the family that wants so many.

    A cell that is left lies in groups one behind the other, none of which is the first one; so the round, cut at
    that one, is a line. Where of all that are left a cell ends as the first, nothing is lost by a prick at its very
    end, and no cell that is still left behind this prick shares a group with that cell.
    """
    left = [cell for cell in wished if cell not in groups[first]]
    places = [first]
    family = []
    for step in range(1, len(groups)):
        place = (first + step) % len(groups)
        after = (place + 1) % len(groups)
        ending = [cell for cell in left if cell in groups[place] and cell not in groups[after]]
        if ending:
            places.append(place)
            family.append(ending[0])
            left = [cell for cell in left if cell not in groups[place]]
    return (sorted(places), tuple(sorted(family)))


def plans(groups, wished):
    """The plans for each place of the first wished cell: some prick goes through it, so one of them is the best."""
    return [plan(groups, wished, place) for place in places_of(groups, wished[0])]


def fewest_pricks(many, winding, wished):
    """As few pricks as can be that make holes in just the wished cells; None where some are barred."""
    rows = harmless(many, winding, wished)
    groups = groups_of(rows)
    if some_barred(groups, wished):
        return None
    if not wished:
        return ()
    best = min([places for places, family in plans(groups, wished)], key=len)
    return tuple([rows[place][0] for place in best])


def paper(many, winding, wished):
    """A paper that shows how many the fewest pricks are; None where some wished cells are barred."""
    groups = groups_of(harmless(many, winding, wished))
    if some_barred(groups, wished):
        return None
    if not wished:
        return ()
    return (wished[0], tuple([family for places, family in plans(groups, wished)]))


def is_wish(thing, wished):
    """Whether thing, which may be anything, is one of the wished cells."""
    return is_whole(thing) and thing in wished


def is_family(thing, groups, wished, place):
    """Whether thing, which may be anything, is a family for the group at the place."""
    if not isinstance(thing, tuple) or not all([is_wish(cell, wished) for cell in thing]):
        return False
    if list(thing) != sorted(set(thing)) or any([cell in groups[place] for cell in thing]):
        return False
    return all([len([cell for cell in thing if cell in cells]) <= 1 for cells in groups])


def are_families(thing, groups, wished, places):
    """Whether thing, which may be anything, is a tuple of families, one for each of the places."""
    if not isinstance(thing, tuple) or len(thing) != len(places):
        return False
    return all([is_family(family, groups, wished, place) for family, place in zip(thing, places)])


def shown(many, winding, wished, thing):
    """The number that thing, which may be anything, shows; None of what is no paper, or where some are barred."""
    groups = groups_of(harmless(many, winding, wished))
    if some_barred(groups, wished) or not isinstance(thing, tuple):
        return None
    if not wished:
        return 0 if len(thing) == 0 else None
    if len(thing) != 2:
        return None
    cell, families = thing
    if not is_wish(cell, wished) or not are_families(families, groups, wished, places_of(groups, cell)):
        return None
    return 1 + min([len(family) for family in families])
