"""Where light comes through a wound strip that has holes."""

from needleroll.wishes import harmless


def light(many, winding, holes):
    """The pairs (from, to) of the angles at which a needle would make no new hole, as long as can be, rising."""
    told = []
    for begin, after, cells in harmless(many, winding, holes):
        if told and told[-1][1] == begin:
            told[-1] = (told[-1][0], after)
        else:
            told.append((begin, after))
    return told
