"""Point 9, and point 3 of found strips."""

import time
import unittest

from needleroll.fewest import fewest_pricks
from needleroll.found import fewest_of_all, windings_of
from needleroll.windings import pricked
from tests import model


def made_by(many, winding, angles):
    return tuple(sorted({cell for angle in angles for cell in pricked(many, winding, angle)}))


def turned(windings):
    return sorted((girth, growth, 1 - end) for girth, growth, end in windings)


class Found(unittest.TestCase):
    def check(self, many, holes):
        """Both answers, against the model's fewest pricks of each winding."""
        numbers = [(model.fewest(many, winding, holes), winding) for winding in model.WINDINGS]
        told = windings_of(many, holes)
        self.assertIs(type(told), list)
        self.assertEqual(told, [winding for number, winding in numbers if number is not None], (many, holes))
        best = None
        for number, winding in numbers:
            if number is not None and (best is None or number < best[0]):
                best = (number, winding)
        answer = fewest_of_all(many, holes)
        self.assertIs(type(answer), type(best), (many, holes))
        self.assertEqual(answer, best, (many, holes))

    def test_no_hole(self):
        for many in model.LENGTHS:
            self.assertEqual(windings_of(many, ()), model.WINDINGS)
            self.assertEqual(fewest_of_all(many, ()), (0, (4, 0, 0)))

    def test_all_cells(self):
        for many in (1, 2, 3, 4, 12, 24):
            self.assertEqual(windings_of(many, tuple(range(many))), model.WINDINGS)
        self.assertEqual(fewest_of_all(1, (0,)), (1, (4, 0, 0)))
        self.assertEqual(fewest_of_all(2, (0, 1)), (2, (4, 0, 0)))
        self.assertEqual(fewest_of_all(24, tuple(range(24))), (2, (4, 0, 0)))

    def test_by_hand(self):
        # Three cells, and a hole in the middle one: some stretch of any winding pricks it alone.
        self.assertEqual(windings_of(3, (1,)), model.WINDINGS)
        # On turns of four halves the third cell lies just over the first; where the next turn is longer, it ends
        # ahead of the first one's end, and there the first can be pricked alone.
        self.assertEqual(fewest_of_all(3, (0, 2)), (1, (4, 0, 0)))
        self.assertEqual(fewest_of_all(3, (0, 1)), (2, (4, 1, 0)))
        self.assertNotIn((4, 0, 0), windings_of(3, (0, 1)))
        self.assertNotIn((4, 0, 1), windings_of(3, (0, 1)))
        self.assertIn((4, 1, 0), windings_of(3, (0, 1)))

    def test_the_first_winding_by_which_so_few_do(self):
        # By (4, 0, 1) and others it takes one prick, too; by (5, 0, 0), which stands ahead of some of them, two.
        self.assertEqual(fewest_of_all(4, (0, 2)), (1, (4, 0, 0)))
        numbers = [len(fewest_pricks(4, winding, (0, 2))) for winding in windings_of(4, (0, 2))]
        self.assertGreater(numbers.count(1), 1)
        self.assertGreater(max(numbers), 1)

    def test_so_few_by_a_later_winding_than_the_first_one_told(self):
        found = 0
        for holes in model.subsets(6):
            best = fewest_of_all(6, holes)
            if best is not None and best[1] != windings_of(6, holes)[0]:
                found += 1
                self.assertGreater(len(fewest_pricks(6, windings_of(6, holes)[0], holes)), best[0])
        self.assertGreater(found, 0)

    def test_holes_that_no_winding_makes(self):
        self.assertEqual(windings_of(24, (0,)), [])
        self.assertIsNone(fewest_of_all(24, (0,)))
        self.assertEqual(windings_of(24, (11,)), [])
        self.assertIsNone(fewest_of_all(24, (11,)))

    def test_all_holes_of_short_strips_gone_through_outright(self):
        for many in (1, 2, 3, 5):
            for holes in model.subsets(many):
                self.check(many, holes)

    def test_some_holes_of_longer_strips_gone_through_outright(self):
        for holes in [(0, 3, 6), (1, 4, 7), (0, 2, 4, 6, 8), (0, 1, 4, 5, 8), (0, 1, 2, 3), (2, 3, 5, 7)]:
            self.check(9, holes)

    def test_the_winding_by_which_holes_were_made_is_among_those_told(self):
        for many in (5, 13, 24):
            for winding in model.SOME_WINDINGS:
                for angles in [[(0, 1)], [(1, 3), (2, 3)], [(1, 7), (1, 2), (10 ** 20 - 2, 10 ** 20 - 1)]]:
                    holes = made_by(many, winding, angles)
                    told = windings_of(many, holes)
                    self.assertIn(winding, told)
                    number, first = fewest_of_all(many, holes)
                    self.assertLessEqual(number, len(angles))
                    self.assertIn(first, told)
                    self.assertEqual(len(fewest_pricks(many, first, holes)), number)

    def test_just_those_by_which_all_holes_can_be_made(self):
        for holes in [tuple(range(23)), tuple(range(0, 24, 2)), tuple(range(8)), tuple(range(1, 24)), (0, 8, 20)]:
            right = [winding for winding in model.WINDINGS if model.makeable(24, winding, holes) == holes]
            self.assertEqual(windings_of(24, holes), right)

    def test_the_order_of_the_windings(self):
        for holes in [(), (0, 2), (0, 1, 2, 3, 4), (1, 3)]:
            told = windings_of(5, holes)
            self.assertEqual(told, sorted(set(told)))
            for winding in told:
                self.assertIs(type(winding), tuple)

    def test_the_strip_told_backward_against_the_other_end(self):
        for holes in model.subsets(6):
            told = windings_of(6, holes)
            self.assertEqual(windings_of(6, model.backward(6, holes)), turned(told))
            best, other = fewest_of_all(6, holes), fewest_of_all(6, model.backward(6, holes))
            self.assertEqual(best and best[0], other and other[0])

    def test_within_a_moment(self):
        for holes in [(), tuple(range(24)), tuple(range(23)), tuple(range(0, 24, 2)), (0,)]:
            begun = time.monotonic()
            windings_of(24, holes)
            fewest_of_all(24, holes)
            self.assertLess(time.monotonic() - begun, 5)

    def test_each_list_is_a_new_one(self):
        first, second = windings_of(3, ()), windings_of(3, ())
        first.clear()
        self.assertEqual(second, model.WINDINGS)
        self.assertEqual(windings_of(3, ()), model.WINDINGS)

    def test_somewhat_beyond_the_limits_no_error_is_raised(self):
        for many in (0, 25, 30):
            for holes in [(), (0,), (-1, 3, 99), tuple(range(many))]:
                told = windings_of(many, holes)
                self.assertEqual(told == [], fewest_of_all(many, holes) is None)


if __name__ == "__main__":
    unittest.main()
