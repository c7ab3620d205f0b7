"""Point 6, and point 3 of wished cells that can't be made."""

import unittest

from needleroll.windings import pricked, stretches
from needleroll.wishes import barred, makeable
from tests import model

# The stretches of 5 cells by GROWING prick (0, 2, 4), (0, 2), (0, 3), (1, 3) and (1, 4).
GROWING = (4, 1, 0)


class Wishes(unittest.TestCase):
    def told(self, many, winding, wished, stopped, made):
        answer = barred(many, winding, wished)
        self.assertIsInstance(answer, list)
        self.assertEqual(answer, stopped, (many, winding, wished))
        answer = makeable(many, winding, wished)
        self.assertIsInstance(answer, tuple)
        self.assertEqual(answer, made, (many, winding, wished))

    def test_no_wishes(self):
        for many in (1, 5, 24):
            for winding in model.SOME_WINDINGS:
                self.told(many, winding, (), [], ())

    def test_all_cells_wished(self):
        for many in (1, 5, 24):
            for winding in model.SOME_WINDINGS:
                self.told(many, winding, tuple(range(many)), [], tuple(range(many)))

    def test_none_is_barred(self):
        self.told(5, GROWING, (0, 2), [], (0, 2))
        self.told(5, GROWING, (0, 3), [], (0, 3))
        self.told(5, GROWING, (0, 1, 3), [], (0, 1, 3))
        self.told(3, (10, 2, 0), (1,), [], (1,))

    def test_some_are_barred(self):
        self.told(5, GROWING, (0, 3, 4), [(4, (2, 1))], (0, 3))
        self.told(5, GROWING, (1, 2, 4), [(2, (0, 0))], (1, 4))
        self.told(5, GROWING, (0, 1, 2), [(1, (3, 4))], (0, 2))

    def test_all_are_barred(self):
        self.told(5, GROWING, (1,), [(1, (3, 4))], ())
        self.told(5, GROWING, (0, 4), [(0, (2, 2, 3)), (4, (2, 1))], ())
        self.told(5, GROWING, (2, 3), [(2, (0, 0)), (3, (0, 1))], ())

    def test_the_least_spoilt_cell_in_the_order_of_the_stretches(self):
        # Wound from the other end: (0, 2, 4), (2, 4), (1, 4), (1, 3) and (0, 3).
        self.told(5, (4, 1, 1), (4,), [(4, (0, 2, 1))], ())
        self.told(5, (4, 1, 1), (0,), [(0, (2, 3))], ())
        self.told(5, (4, 1, 1), (3,), [(3, (1, 0))], ())
        self.told(5, (4, 0, 0), (0, 4), [(0, (2,)), (4, (2,))], ())

    def test_a_cell_over_the_end_of_a_turn_has_the_stretch_at_nought_first(self):
        # The stretches prick (0, 2), (0,), (1,) and (2,).
        self.told(3, (5, 0, 0), (2,), [], (2,))
        # The stretches prick (0, 2, 5), (0, 3, 5), (1, 3), (1, 4) and (2, 4).
        self.told(6, (5, 0, 0), (2,), [(2, (0, 4))], ())
        self.told(6, (5, 0, 0), (0, 2), [(0, (5, 3)), (2, (5, 4))], ())

    def test_all_wishes_of_short_strips(self):
        for many in range(1, 8):
            for winding in model.SOME_WINDINGS:
                for wished in model.subsets(many):
                    stopped = model.barred(many, winding, wished)
                    self.told(many, winding, wished, stopped, model.makeable(many, winding, wished))

    def test_some_wishes_of_every_winding_of_a_long_strip(self):
        for winding in model.WINDINGS:
            for wished in [(0,), (23,), tuple(range(12)), tuple(range(0, 24, 2)), tuple(range(5, 24))]:
                stopped = model.barred(24, winding, wished)
                self.told(24, winding, wished, stopped, model.makeable(24, winding, wished))

    def test_for_each_angle_through_a_barred_cell_a_spoilt_one_is_told(self):
        for winding in model.SOME_WINDINGS:
            for wished in [(3,), (0, 4, 8), (1, 2, 3, 4, 10), tuple(range(1, 11))]:
                for cell, spoilt in barred(11, winding, wished):
                    through = [begin for begin, _, cells in stretches(11, winding) if cell in cells]
                    self.assertEqual(len(through), len(spoilt))
                    for begin, least in zip(through, spoilt):
                        unwished = [other for other in pricked(11, winding, begin) if other not in wished]
                        self.assertEqual(least, unwished[0])

    def test_each_wish_is_either_barred_or_makeable(self):
        for winding in model.SOME_WINDINGS:
            for wished in model.subsets(6):
                stopped = [cell for cell, _ in barred(6, winding, wished)]
                self.assertEqual(sorted(stopped + list(makeable(6, winding, wished))), list(wished))

    def test_what_can_be_made_of_two_wishes_can_be_made_of_both(self):
        for winding in model.SOME_WINDINGS:
            for one in model.subsets(5):
                for other in model.subsets(5):
                    both = tuple(sorted(set(one) | set(other)))
                    apart = set(makeable(5, winding, one)) | set(makeable(5, winding, other))
                    self.assertLessEqual(apart, set(makeable(5, winding, both)))

    def test_what_can_be_made_is_no_more_barred_by_itself(self):
        for winding in model.SOME_WINDINGS:
            for wished in model.subsets(6):
                made = makeable(6, winding, wished)
                self.told(6, winding, made, [], made)

    def test_wound_from_the_other_end_all_is_as_on_the_strip_told_backward(self):
        for girth, growth, end in model.SOME_WINDINGS:
            for wished in model.subsets(6):
                turned = tuple(sorted(5 - cell for cell in wished))
                made = makeable(6, (girth, growth, end), wished)
                self.assertEqual(
                    makeable(6, (girth, growth, 1 - end), turned), tuple(sorted(5 - cell for cell in made))
                )
                stopped = [5 - cell for cell, _ in barred(6, (girth, growth, end), wished)]
                self.assertEqual([cell for cell, _ in barred(6, (girth, growth, 1 - end), turned)], stopped[::-1])

    def test_each_list_is_a_new_one(self):
        first = barred(5, GROWING, (0, 3, 4))
        second = barred(5, GROWING, (0, 3, 4))
        first.clear()
        self.assertEqual(second, [(4, (2, 1))])
        self.told(5, GROWING, (0, 3, 4), [(4, (2, 1))], (0, 3))

    def test_somewhat_beyond_the_limits_no_error_is_raised(self):
        for many in (0, 25, 30):
            for winding in [(3, 0, 0), (17, 9, 1), (0, 0, 0), (40, 20, 2)]:
                for wished in [(), (0,), (-1, 3, 99), tuple(range(many))]:
                    self.assertIsInstance(barred(many, winding, wished), list)
                    self.assertIsInstance(makeable(many, winding, wished), tuple)


if __name__ == "__main__":
    unittest.main()
