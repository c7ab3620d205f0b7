"""A roll: a strip that is wound and pricked deed by deed."""

from needleroll.errors import NoAngle, NoStrip, NothingLeft, NotWound, NoWinding
from needleroll.light import light as light_through
from needleroll.windings import is_angle, is_strip, is_winding, pricked


class Roll:
    """A strip of so many cells, not wound at first and without a hole."""

    def __init__(self, many):
        if not is_strip(many):
            raise NoStrip("a strip has 1 to 24 cells")
        self.many = many
        self.wound = None
        self.pierced = ()
        self.times = 0
        self.past = []

    def remember(self):
        """Keeps how the roll is now, ahead of a deed that may be taken back."""
        self.past.append((self.wound, self.pierced, self.times))

    def need_winding(self):
        """Refuses what can't be done with a roll that is not wound."""
        if self.wound is None:
            raise NotWound("the roll is not wound")

    def wind(self, winding):
        """Winds the strip, also where it is wound already."""
        if not is_winding(winding):
            raise NoWinding("a winding is (girth, growth, end): girth 4 to 16, growth 0 to 8, end 0 or 1")
        self.remember()
        # What is handed in is kept as a copy only.
        girth, growth, end = winding
        self.wound = (girth, growth, end)

    def prick(self, angle):
        """Pricks the roll; tells the cells that have a hole now and had none, rising."""
        if not is_angle(angle):
            raise NoAngle("an angle is a fraction in lowest terms from 0 on and below 1")
        self.need_winding()
        fresh = [cell for cell in pricked(self.many, self.wound, angle) if cell not in self.pierced]
        self.remember()
        self.pierced = tuple(sorted(list(self.pierced) + fresh))
        self.times += 1
        return tuple(fresh)

    def back(self):
        """Takes back what was done last."""
        if not self.past:
            raise NothingLeft("nothing is left that could be taken back")
        self.wound, self.pierced, self.times = self.past.pop()

    def winding(self):
        """The winding, None where the roll is not wound."""
        return self.wound

    def holes(self):
        """The cells that have a hole, rising."""
        return self.pierced

    def light(self):
        """Where light comes through, as a list of pairs (from, to)."""
        self.need_winding()
        return light_through(self.many, self.wound, self.pierced)

    def pricks(self):
        """How many pricks there were and were not taken back."""
        return self.times

    def __len__(self):
        return len(self.pierced)

    def __eq__(self, other):
        return (
            isinstance(other, Roll)
            and self.many == other.many
            and self.wound == other.wound
            and self.pierced == other.pierced
            and self.times == other.times
        )
