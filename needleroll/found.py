"""Found strips: the windings by which pricks can have made their holes."""

from needleroll.fewest import fewest_pricks
from needleroll.windings import all_windings
from needleroll.wishes import barred


def windings_of(many, holes):
    """All windings by which some pricks, or none, make just these holes, rising."""
    return [winding for winding in all_windings() if not barred(many, winding, holes)]


def fewest_of_all(many, holes):
    """The fewest pricks of all windings that make just these holes, and the first winding by which so few do."""
    tried = [(fewest_pricks(many, winding, holes), winding) for winding in all_windings()]
    return min([(len(pricks), winding) for pricks, winding in tried if pricks is not None], default=None)
