"""Point 7: the fewest pricks, and a paper that no fewer do."""

import time
import unittest
from fractions import Fraction

from needleroll.fewest import fewest_pricks, paper
from tests import model

# The stretches of 5 cells by GROWING prick (0, 2, 4), (0, 2), (0, 3), (1, 3) and (1, 4).
GROWING = (4, 1, 0)
CORNERS = [(girth, growth, end) for girth in (4, 16) for growth in (0, 8) for end in (0, 1)]
LONG_WISHES = (
    [tuple(range(24)), tuple(range(0, 24, 2)), tuple(range(1, 24, 2))]
    + [tuple(cell for cell in range(24) if cell != gone) for gone in range(24)]
)


class Fewest(unittest.TestCase):
    def check(self, many, winding, wished):
        """That just the wished cells get holes, and that the paper, read by the model, shows just as many."""
        asked = (many, winding, wished)
        pricks, shows = fewest_pricks(*asked), paper(*asked)
        if model.makeable(*asked) != wished:
            self.assertIsNone(pricks, asked)
            self.assertIsNone(shows, asked)
            return None
        self.assertIs(type(pricks), tuple, asked)
        worths = []
        for angle in pricks:
            self.assertIs(type(angle), tuple, asked)
            worths.append(Fraction(*angle))
            self.assertEqual(angle, model.pair(worths[-1]), asked)
            self.assertTrue(0 <= worths[-1] < 1, asked)
        self.assertEqual(worths, sorted(set(worths)), asked)
        holes = {cell for angle in pricks for cell in model.pricked(many, winding, angle)}
        self.assertEqual(tuple(sorted(holes)), wished, asked)
        self.assertEqual(model.shown(*asked, shows), len(pricks), asked)
        return len(pricks)

    def test_no_wishes(self):
        for many in (1, 5, 24):
            for winding in model.SOME_WINDINGS:
                self.assertEqual(fewest_pricks(many, winding, ()), ())
                self.assertEqual(paper(many, winding, ()), ())

    def test_none_where_some_are_barred(self):
        for wished in [(1,), (0, 4), (0, 3, 4), (1, 2, 4), (2, 3)]:
            self.assertIsNone(fewest_pricks(5, GROWING, wished))
            self.assertIsNone(paper(5, GROWING, wished))

    def test_by_hand(self):
        for wished, number in [((0, 2), 1), ((0, 2, 4), 1), ((0, 3), 1), ((0, 2, 3), 2), ((0, 1, 3, 4), 2)]:
            self.assertEqual(self.check(5, GROWING, wished), number, wished)
        self.assertEqual(self.check(5, GROWING, (0, 1, 2, 3, 4)), 2)
        self.assertEqual(self.check(3, (10, 2, 0), (0, 1, 2)), 3)
        self.assertEqual(self.check(3, (10, 2, 1), (0, 2)), 2)

    def test_one_cell(self):
        for winding in model.WINDINGS:
            self.assertEqual(self.check(1, winding, (0,)), 1)

    def test_where_no_lot_of_cells_apart_from_one_another_is_so_large(self):
        # Each cell shares a stretch with two others, all five in a ring: no three are apart, and two pricks miss one.
        for end in (0, 1):
            self.assertEqual(self.check(5, (5, 0, end), (0, 1, 2, 3, 4)), 3)

    def test_all_wishes_of_short_strips_gone_through_outright(self):
        for many in range(1, 8):
            for winding in model.SOME_WINDINGS:
                for wished in model.subsets(many):
                    number = self.check(many, winding, wished)
                    self.assertEqual(number, model.fewest(many, winding, wished), (many, winding, wished))

    def test_all_cells_of_every_winding_gone_through_outright(self):
        for many in (3, 6):
            for winding in model.WINDINGS:
                wished = tuple(range(many))
                self.assertEqual(self.check(many, winding, wished), model.fewest(many, winding, wished))

    def test_what_some_needles_make_of_longer_strips(self):
        for many in (9, 13, 18, 24):
            for winding in model.SOME_WINDINGS:
                groups = [cells for _, _, cells in model.stretches(many, winding)]
                for step in (2, 3, 5):
                    wished = tuple(sorted({cell for cells in groups[::step] for cell in cells}))
                    self.assertLessEqual(self.check(many, winding, wished), len(groups[::step]))

    def test_long_strips_of_every_winding(self):
        for winding in model.WINDINGS:
            self.check(24, winding, tuple(range(24)))
            self.check(23, winding, tuple(range(22)))

    def test_all_cells_all_but_one_and_every_second_one(self):
        for winding in CORNERS:
            for wished in LONG_WISHES:
                self.check(24, winding, wished)
        self.assertEqual(self.check(24, (4, 0, 0), tuple(range(24))), 2)
        self.assertEqual(self.check(24, (4, 0, 1), tuple(range(0, 24, 2))), 1)
        self.assertEqual(self.check(24, (16, 0, 0), tuple(range(24))), 8)
        self.assertEqual(self.check(24, (16, 0, 1), tuple(range(1, 24, 2))), 4)

    def test_within_a_moment(self):
        for winding in CORNERS:
            for wished in LONG_WISHES:
                begun = time.monotonic()
                fewest_pricks(24, winding, wished)
                paper(24, winding, wished)
                self.assertLess(time.monotonic() - begun, 1)

    def test_wound_from_the_other_end_as_many_as_on_the_strip_told_backward(self):
        for girth, growth, end in model.SOME_WINDINGS:
            for wished in model.subsets(6):
                number = self.check(6, (girth, growth, end), wished)
                self.assertEqual(self.check(6, (girth, growth, 1 - end), model.backward(6, wished)), number)

    def test_the_same_asked_again_is_answered_the_same(self):
        for winding in model.SOME_WINDINGS:
            asked = (11, winding, tuple(range(11)))
            self.assertEqual(fewest_pricks(*asked), fewest_pricks(*asked))
            self.assertEqual(paper(*asked), paper(*asked))

    def test_somewhat_beyond_the_limits_no_error_is_raised(self):
        for many in (0, 1, 25, 40):
            for girth in (-1, 0, 1, 3, 17, 40):
                for growth in (-1, 0, 9, 20):
                    for wished in [(), (0,), (-1, 3, 99), tuple(range(many))]:
                        pricks = fewest_pricks(many, (girth, growth, 1), wished)
                        self.assertEqual(pricks is None, paper(many, (girth, growth, 1), wished) is None)


if __name__ == "__main__":
    unittest.main()
