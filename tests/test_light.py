"""Point 8, and point 3 of light."""

import unittest
from fractions import Fraction

from needleroll.light import light
from needleroll.windings import pricked
from tests import model

# The stretches of 5 cells by GROWING: (0, 2, 4) to 1/6, (0, 2) to 2/5, (0, 3) to 1/2, (1, 3) to 4/5, (1, 4) to 1.
GROWING = (4, 1, 0)


class Light(unittest.TestCase):
    def told(self, many, winding, holes, rows):
        answer = light(many, winding, holes)
        self.assertIsInstance(answer, list)
        for row in answer:
            self.assertIs(type(row), tuple)
        self.assertEqual(answer, rows, (many, winding, holes))

    def test_no_holes(self):
        self.told(5, GROWING, (), [])
        self.told(24, (4, 0, 0), (), [])
        self.told(24, (16, 8, 1), (), [])

    def test_no_holes_in_a_strip_shorter_than_its_turn(self):
        for end in (0, 1):
            self.told(1, (4, 0, end), (), [((1, 2), (1, 1))])
            self.told(1, (16, 8, end), (), [((1, 8), (1, 1))])
            self.told(3, (10, 2, end), (), [((3, 5), (1, 1))])
            self.told(5, (10, 2, end), (), [])

    def test_holes_in_a_strip_shorter_than_its_turn(self):
        self.told(3, (10, 2, 0), (0,), [((0, 1), (1, 5)), ((3, 5), (1, 1))])
        self.told(3, (10, 2, 0), (1,), [((1, 5), (2, 5)), ((3, 5), (1, 1))])
        self.told(3, (10, 2, 0), (2,), [((2, 5), (1, 1))])
        self.told(3, (10, 2, 1), (2,), [((0, 1), (1, 5)), ((3, 5), (1, 1))])
        self.told(3, (10, 2, 0), (0, 1, 2), [((0, 1), (1, 1))])

    def test_all_cells_holes(self):
        for many in model.LENGTHS:
            for winding in model.SOME_WINDINGS:
                self.told(many, winding, tuple(range(many)), [((0, 1), (1, 1))])

    def test_stretches_that_touch_are_told_as_one(self):
        self.told(5, GROWING, (0, 2, 3), [((1, 6), (1, 2))])
        self.told(5, GROWING, (0, 2, 3, 4), [((0, 1), (1, 2))])
        self.told(5, GROWING, (0, 1, 3, 4), [((2, 5), (1, 1))])

    def test_but_not_over_the_angle_nought(self):
        self.told(5, GROWING, (0, 1, 2, 4), [((0, 1), (2, 5)), ((4, 5), (1, 1))])
        self.told(3, (5, 0, 0), (0, 2), [((0, 1), (2, 5)), ((4, 5), (1, 1))])

    def test_holes_through_which_no_light_comes(self):
        self.told(5, GROWING, (0,), [])
        self.told(5, GROWING, (0, 4), [])
        self.told(5, (4, 0, 0), (0, 1, 2, 3), [((1, 2), (1, 1))])
        self.told(5, (4, 0, 0), (0, 1, 2), [])

    def test_holes_made_by_pricks_of_this_winding_and_of_another_one(self):
        # (1, 3) at 1/2 by GROWING; turns of five halves prick (1, 3) from 2/5 to 3/5, too; turns of four 1 and 3.
        holes = tuple(pricked(5, GROWING, (1, 2)))
        self.told(5, GROWING, holes, [((1, 2), (4, 5))])
        self.told(5, (5, 0, 0), holes, [((2, 5), (3, 5))])
        self.told(5, (4, 0, 0), holes, [((1, 2), (1, 1))])
        self.told(5, (6, 0, 0), holes, [])

    def test_where_a_needle_has_gone_there_is_light(self):
        for many in (2, 5, 11, 24):
            for winding in model.SOME_WINDINGS:
                for angle in [(0, 1), (1, 7), (1, 2), (5, 6), (10 ** 20 - 2, 10 ** 20 - 1)]:
                    rows = light(many, winding, tuple(pricked(many, winding, angle)))
                    worth = Fraction(*angle)
                    self.assertTrue(any(Fraction(*begin) <= worth < Fraction(*end) for begin, end in rows))

    def test_all_holes_of_short_strips(self):
        for many in range(1, 8):
            for winding in model.SOME_WINDINGS:
                for holes in model.subsets(many):
                    self.told(many, winding, holes, model.light(many, winding, holes))

    def test_every_winding_of_a_long_strip(self):
        for winding in model.WINDINGS:
            for holes in [(), tuple(range(23)), tuple(range(0, 24, 2)), tuple(range(4, 20))]:
                self.told(24, winding, holes, model.light(24, winding, holes))

    def test_just_at_the_angles_at_which_a_needle_would_make_no_new_hole(self):
        for many in (3, 7, 12):
            for winding in model.SOME_WINDINGS:
                for holes in [(), (0,), tuple(range(many - 1)), tuple(range(0, many, 2)), tuple(range(2, many))]:
                    rows = [(Fraction(*begin), Fraction(*end)) for begin, end in light(many, winding, holes)]
                    for top in range(60):
                        angle = Fraction(top, 60)
                        bright = any(begin <= angle < end for begin, end in rows)
                        cells = model.pricked(many, winding, model.pair(angle))
                        self.assertEqual(bright, set(cells) <= set(holes), (many, winding, holes, angle))

    def test_shape(self):
        for winding in model.WINDINGS:
            for holes in [(), tuple(range(1, 9)), tuple(range(0, 9, 2)), tuple(range(7))]:
                rows = light(9, winding, holes)
                for row in rows:
                    begin, end = [Fraction(*angle) for angle in row]
                    self.assertEqual(row, (model.pair(begin), model.pair(end)))
                    self.assertTrue(0 <= begin < end <= 1)
                for one, other in zip(rows, rows[1:]):
                    self.assertLess(Fraction(*one[1]), Fraction(*other[0]))

    def test_wound_from_the_other_end_all_is_as_on_the_strip_told_backward(self):
        for girth, growth, end in model.SOME_WINDINGS:
            for holes in model.subsets(6):
                rows = light(6, (girth, growth, end), holes)
                self.told(6, (girth, growth, 1 - end), model.backward(6, holes), rows)

    def test_each_list_is_a_new_one(self):
        first = light(5, GROWING, (0, 2, 3))
        second = light(5, GROWING, (0, 2, 3))
        first[0] = None
        first.append(None)
        self.assertEqual(second, [((1, 6), (1, 2))])
        self.told(5, GROWING, (0, 2, 3), [((1, 6), (1, 2))])

    def test_somewhat_beyond_the_limits_no_error_is_raised(self):
        for many in (0, 1, 25, 40):
            for winding in [(3, 0, 0), (1, 0, 0), (0, 0, 0), (17, 9, 1), (40, 20, 2)]:
                for holes in [(), (0,), (-1, 3, 99), tuple(range(many))]:
                    self.assertIsInstance(light(many, winding, holes), list)


if __name__ == "__main__":
    unittest.main()
