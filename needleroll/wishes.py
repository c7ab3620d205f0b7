"""Wished cells, and those of them that no pricks make without spoiling another cell."""

from needleroll.windings import stretches


def unwished(cells, wished):
    """Those of the cells that are not wished."""
    return [cell for cell in cells if cell not in wished]


def harmless(many, winding, wished):
    """The stretches that prick no cell but wished ones, or nothing at all, rising."""
    return [row for row in stretches(many, winding) if not unwished(row[2], wished)]


def barred(many, winding, wished):
    """Of each barred wish, rising: the cell, and the least cell that is spoilt by each stretch that pricks it."""
    groups = [cells for begin, after, cells in stretches(many, winding)]
    told = []
    for cell in wished:
        harms = [unwished(cells, wished) for cells in groups if cell in cells]
        # One stretch without harm is enough to make the cell.
        if all(harms):
            told.append((cell, tuple([min(harm) for harm in harms])))
    return told


def makeable(many, winding, wished):
    """The wished cells that are not barred, rising."""
    stopped = [cell for cell, spoilt in barred(many, winding, wished)]
    return tuple([cell for cell in wished if cell not in stopped])
