"""Point 5: the stretches."""

import unittest
from fractions import Fraction

from needleroll.windings import pricked, stretches
from tests import model


def backward(many, told):
    return [(begin, end, tuple(sorted(many - 1 - cell for cell in cells))) for begin, end, cells in told]


class Stretches(unittest.TestCase):
    def test_turns_of_one_length(self):
        self.assertEqual(stretches(5, (4, 0, 0)), [((0, 1), (1, 2), (0, 2, 4)), ((1, 2), (1, 1), (1, 3))])

    def test_turns_that_grow_and_a_strip_that_ends_in_the_middle_of_one(self):
        self.assertEqual(stretches(5, (4, 1, 0)), [
            ((0, 1), (1, 6), (0, 2, 4)),
            ((1, 6), (2, 5), (0, 2)),
            ((2, 5), (1, 2), (0, 3)),
            ((1, 2), (4, 5), (1, 3)),
            ((4, 5), (1, 1), (1, 4)),
        ])

    def test_the_other_end(self):
        self.assertEqual(stretches(5, (4, 1, 1)), [
            ((0, 1), (1, 6), (0, 2, 4)),
            ((1, 6), (2, 5), (2, 4)),
            ((2, 5), (1, 2), (1, 4)),
            ((1, 2), (4, 5), (1, 3)),
            ((4, 5), (1, 1), (0, 3)),
        ])

    def test_one_cell(self):
        for end in (0, 1):
            self.assertEqual(stretches(1, (4, 0, end)), [((0, 1), (1, 2), (0,)), ((1, 2), (1, 1), ())])
            self.assertEqual(stretches(1, (16, 8, end)), [((0, 1), (1, 8), (0,)), ((1, 8), (1, 1), ())])

    def test_a_strip_shorter_than_its_first_turn(self):
        self.assertEqual(stretches(3, (10, 2, 1)), [
            ((0, 1), (1, 5), (2,)),
            ((1, 5), (2, 5), (1,)),
            ((2, 5), (3, 5), (0,)),
            ((3, 5), (1, 1), ()),
        ])

    def test_twenty_four_cells(self):
        even, odd = tuple(range(0, 24, 2)), tuple(range(1, 24, 2))
        self.assertEqual(stretches(24, (4, 0, 0)), [((0, 1), (1, 2), even), ((1, 2), (1, 1), odd)])
        self.assertEqual(stretches(24, (4, 0, 1)), [((0, 1), (1, 2), odd), ((1, 2), (1, 1), even)])

    def test_a_cell_over_the_end_of_a_turn_is_cut_at_the_angle_nought(self):
        # Cell 2 begins at 4 of 5 halves and ends at 1 of the next 5: the first and the last stretch have it.
        self.assertEqual(stretches(3, (5, 0, 0)), [
            ((0, 1), (1, 5), (0, 2)),
            ((1, 5), (2, 5), (0,)),
            ((2, 5), (4, 5), (1,)),
            ((4, 5), (1, 1), (2,)),
        ])

    def test_every_strip_and_every_winding(self):
        for many in model.LENGTHS:
            for winding in model.WINDINGS:
                self.assertEqual(stretches(many, winding), model.stretches(many, winding), (many, winding))

    def check_shape(self, told):
        self.assertIsInstance(told, list)
        self.assertEqual(told[0][0], (0, 1))
        self.assertEqual(told[-1][1], (1, 1))
        for begin, end, cells in told:
            for angle in (begin, end):
                self.assertEqual(angle, model.pair(Fraction(*angle)))
            self.assertLess(Fraction(*begin), Fraction(*end))
            self.assertIsInstance(cells, tuple)
            self.assertEqual(cells, tuple(sorted(set(cells))))
        for one, other in zip(told, told[1:]):
            self.assertEqual(one[1], other[0])
            self.assertNotEqual(one[2], other[2])

    def test_shape(self):
        for many in model.LENGTHS:
            for winding in model.WINDINGS:
                self.check_shape(stretches(many, winding))

    def test_every_cell_lies_in_some_stretch(self):
        for many in model.LENGTHS:
            for winding in model.SOME_WINDINGS:
                found = {cell for _, _, cells in stretches(many, winding) for cell in cells}
                self.assertEqual(found, set(range(many)))

    def test_the_needles_within_a_stretch_prick_just_its_cells(self):
        for many in (1, 2, 5, 11, 24):
            for winding in model.SOME_WINDINGS:
                for begin, end, cells in stretches(many, winding):
                    low, high = Fraction(*begin), Fraction(*end)
                    for share in (0, Fraction(1, 10 ** 15), Fraction(1, 3), 1 - Fraction(1, 10 ** 15)):
                        angle = model.pair(low + (high - low) * share)
                        self.assertEqual(pricked(many, winding, angle), list(cells))

    def test_wound_from_the_other_end_all_is_as_on_the_strip_told_backward(self):
        for many in model.LENGTHS:
            for girth in range(4, 17):
                for growth in range(9):
                    told = stretches(many, (girth, growth, 0))
                    self.assertEqual(stretches(many, (girth, growth, 1)), backward(many, told))

    def test_each_list_is_a_new_one(self):
        first = stretches(5, (4, 0, 0))
        second = stretches(5, (4, 0, 0))
        first[0] = None
        first.append(None)
        self.assertEqual(second, [((0, 1), (1, 2), (0, 2, 4)), ((1, 2), (1, 1), (1, 3))])
        self.assertEqual(stretches(5, (4, 0, 0)), second)

    def test_somewhat_beyond_the_limits_no_error_is_raised(self):
        for many in (0, 1, 25, 40):
            for girth in (-1, 0, 1, 3, 17, 40):
                for growth in (-1, 0, 9, 20):
                    for end in (0, 1, 2):
                        self.assertIsInstance(stretches(many, (girth, growth, end)), list)


if __name__ == "__main__":
    unittest.main()
