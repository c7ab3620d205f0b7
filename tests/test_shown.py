"""Point 7: what anything shows."""

import unittest
from itertools import product

from needleroll.fewest import fewest_pricks, paper, shown
from tests import model

RING = (5, (5, 0, 0), (0, 1, 2, 3, 4))  # prick (0, 2), (0, 3), (1, 3), (1, 4) and (2, 4)
FOUR = (4, (10, 2, 0), (0, 1, 3))  # prick 0, 1 and 3 each by itself, and nothing behind them
# Wished are 0, 2 and 3: of the stretches (0, 2, 4), (0, 2), (0, 3), (1, 3) and (1, 4) the second and third harmless.
GROWN = (5, (4, 1, 0), (0, 2, 3))


class Shown(unittest.TestCase):
    def shows(self, asked, thing, number):
        answer = shown(*asked, thing)
        if number is None:
            self.assertIsNone(answer, (asked, thing))
        else:
            self.assertIs(type(answer), int)
            self.assertEqual(answer, number, (asked, thing))

    def test_the_told_papers_show_how_many_the_told_pricks_are(self):
        for many in (1, 2, 4, 6):
            for winding in model.SOME_WINDINGS:
                for wished in model.subsets(many):
                    asked = (many, winding, wished)
                    pricks = fewest_pricks(*asked)
                    self.shows(asked, paper(*asked), None if pricks is None else len(pricks))

    def test_the_told_papers_of_long_strips(self):
        for winding in model.WINDINGS:
            for wished in [tuple(range(24)), tuple(range(0, 24, 2)), tuple(range(3, 24))]:
                asked = (24, winding, wished)
                pricks = fewest_pricks(*asked)
                self.shows(asked, paper(*asked), None if pricks is None else len(pricks))

    def test_papers_of_three_pricks(self):
        self.shows(RING, (0, ((1, 3), (1, 4))), None)  # 1 and 3 are pricked by one stretch
        self.shows(RING, (0, ((3, 4), (1, 2))), 3)
        self.shows(RING, (2, ((3, 4), (0, 1))), 3)
        self.shows(RING, (1, ((0, 4), (2, 3))), 3)

    def test_smaller_families_show_less(self):
        self.shows(RING, (0, ((3, 4), ())), 1)
        self.shows(RING, (0, ((), (1, 2))), 1)
        self.shows(RING, (0, ((), ())), 1)
        self.shows(RING, (0, ((3,), (1, 2))), 2)
        self.shows(RING, (0, ((1,), (4,))), 2)

    def test_any_wished_cell(self):
        self.shows(FOUR, (0, ((1, 3),)), 3)
        self.shows(FOUR, (1, ((0, 3),)), 3)
        self.shows(FOUR, (3, ((0, 1),)), 3)

    def test_a_family_left_out_or_one_too_many(self):
        for families in [(), ((3, 4),), ((1, 2),), ((3, 4), (1, 2), ()), ((3, 4), (1, 2), (1, 2)), ((), (), ())]:
            self.shows(RING, (0, families), None)
        for families in [(), ((1, 3), (1, 3)), ((1, 3), ())]:
            self.shows(FOUR, (0, families), None)

    def test_families_in_another_order(self):
        self.shows(RING, (0, ((1, 2), (3, 4))), None)

    def test_a_cell_that_the_stretch_pricks(self):
        for families in [((2,), ()), ((0,), ()), ((), (0,)), ((), (3,)), ((2, 3), (1, 2)), ((3, 4), (0, 1))]:
            self.shows(RING, (0, families), None)
        self.shows(FOUR, (0, ((0,),)), None)

    def test_two_cells_that_one_harmless_stretch_pricks(self):
        for families in [((1, 4), (1, 2)), ((1, 3), (1, 2)), ((3, 4), (2, 4)), ((1, 3, 4), (1, 2))]:
            self.shows(RING, (0, families), None)

    def test_two_cells_that_only_a_stretch_with_harm_pricks(self):
        # The stretches prick (0, 2, 6), (0, 3, 6), (0, 3), (1, 3), (1, 4), (1, 5) and (2, 5): of those with both
        # 0 and 2 none is harmless.
        asked = (7, (5, 2, 0), (0, 1, 2, 3, 5))
        self.shows(asked, (1, ((0, 2), (0, 2))), 3)
        self.shows(asked, (1, ((0, 5), (0, 2))), 3)
        self.shows(asked, (1, ((2, 5), (0, 2))), None)
        asked = (7, (5, 2, 0), (0, 1, 2, 3, 5, 6))
        self.shows(asked, (1, ((0, 2), (0, 2))), None)
        self.shows(asked, (1, ((0,), (2,))), 2)

    def test_only_the_harmless_stretches_have_families(self):
        self.shows(GROWN, (0, ((3,), (2,))), 2)
        self.shows(GROWN, (0, ((3,), (3,), (2,))), None)
        self.shows(GROWN, (2, ((3,),)), 2)
        self.shows(GROWN, (3, ((2,),)), 2)
        self.shows(GROWN, (3, ((2,), ())), None)

    def test_a_cell_that_is_not_wished(self):
        self.shows(FOUR, (0, ((1, 2),)), None)
        self.shows(FOUR, (0, ((2,),)), None)
        self.shows(FOUR, (0, ((1, 4),)), None)
        self.shows(FOUR, (0, ((-1,),)), None)
        self.shows(FOUR, (0, ((1, 3, 10 ** 20 - 1),)), None)
        self.shows(FOUR, (2, ((0, 1),)), None)
        self.shows(FOUR, (2, ((),)), None)
        self.shows(FOUR, (2, ()), None)
        self.shows(FOUR, (4, ()), None)
        self.shows(FOUR, (-1, ((0, 1),)), None)
        self.shows(FOUR, (10 ** 20 - 1, ((0, 1),)), None)

    def test_families_of_another_wished_cell(self):
        self.shows(RING, (1, ((3, 4), (1, 2))), None)
        self.shows(FOUR, (1, ((1, 3),)), None)
        self.shows(GROWN, (3, ((3,), (2,))), None)

    def test_not_rising(self):
        self.shows(RING, (0, ((4, 3), (1, 2))), None)
        self.shows(RING, (0, ((3, 4), (2, 1))), None)
        self.shows(RING, (0, ((3, 3), (1, 2))), None)
        self.shows(FOUR, (0, ((3, 1),)), None)
        self.shows(FOUR, (0, ((1, 1, 3),)), None)

    def test_no_wishes(self):
        for winding in model.SOME_WINDINGS:
            self.shows((5, winding, ()), (), 0)
            for thing in [[], None, 0, False, "", ((),), (0, ()), (0, ((),)), ((), ())]:
                self.shows((5, winding, ()), thing, None)

    def test_the_paper_of_no_wishes_shows_nothing_of_some(self):
        for asked in (RING, FOUR, GROWN):
            self.shows(asked, (), None)
            self.shows(asked, ((), ()), None)

    def test_none_where_some_are_barred(self):
        asked = (5, (4, 1, 0), (0, 3, 4))
        for thing in [(), (0, ()), (0, ((),)), (3, ((),)), (4, ()), (0, ((4,),)), (4, ((0,), (3,)))]:
            self.shows(asked, thing, None)

    def test_lists_in_place_of_tuples(self):
        for thing in [[0, ((3, 4), (1, 2))], (0, [(3, 4), (1, 2)]), (0, ([3, 4], (1, 2))), (0, ((3, 4), [1, 2]))]:
            self.shows(RING, thing, None)
        for thing in [(0, ([], ())), (0, ((), [])), ([0], ((3, 4), (1, 2))), (0, (([3], 4), (1, 2)))]:
            self.shows(RING, thing, None)

    def test_truths_in_place_of_numbers(self):
        self.shows(RING, (False, ((3, 4), (1, 2))), None)
        self.shows(RING, (0, ((3, 4), (True, 2))), None)
        self.shows(RING, (True, ((0, 4), (2, 3))), None)
        self.shows(RING, (1, ((False, 4), (2, 3))), None)
        for truth in (True, False):
            self.shows(RING, (0, ((3, 4), truth)), None)
            self.shows(RING, (0, truth), None)
            self.shows(RING, truth, None)

    def test_anything(self):
        for asked in (RING, FOUR, GROWN, (5, (5, 0, 0), ()), (5, (4, 1, 0), (1,)), (1, (4, 0, 0), (0,))):
            for thing in model.ANYTHING:
                self.shows(asked, thing, model.shown(*asked, thing))

    def test_anything_in_each_place_of_a_paper(self):
        for thing in model.ANYTHING:
            for whole in [(thing, ((3, 4), (1, 2))), (0, thing), (0, (thing, (1, 2))), (0, ((3, 4), thing)),
                          (0, ((3, thing), (1, 2))), (0, ((3, 4), (1, 2)), thing), (0, ((3, 4), (1, 2), thing))]:
                self.shows(RING, whole, model.shown(*RING, whole))

    def test_all_papers_and_others_of_the_ring(self):
        families = [(), (1,), (3,), (4,), (1, 2), (3, 4), (1, 3), (2, 1), (0, 1), (1, 2, 3)]
        for cell in range(-1, 6):
            for first, second in product(families, families):
                thing = (cell, (first, second))
                self.shows(RING, thing, model.shown(*RING, thing))

    def test_no_paper_shows_more_than_the_fewest_pricks(self):
        most = {}
        for wished in model.subsets(4):
            asked = (4, (5, 1, 0), wished)
            for cell in wished:
                for number in (1, 2):
                    for families in product(model.subsets(4), repeat=number):
                        answer = shown(*asked, (cell, families))
                        self.assertEqual(answer, model.shown(*asked, (cell, families)))
                        if answer is not None:
                            most[wished] = max(answer, most.get(wished, 0))
        for wished, number in most.items():
            self.assertEqual(number, len(fewest_pricks(4, (5, 1, 0), wished)))
        self.assertIn((0, 1, 2, 3), most)

    def test_what_is_handed_in_is_not_changed(self):
        thing = (0, ([4, 3], [1, 2]))
        shown(*RING, thing)
        self.assertEqual(thing, (0, ([4, 3], [1, 2])))

    def test_somewhat_beyond_the_limits_no_error_is_raised(self):
        for many in (0, 1, 25, 40):
            for winding in [(3, 0, 0), (1, 0, 0), (0, 0, 0), (17, 9, 1), (40, 20, 2)]:
                for wished in [(), (0,), (-1, 3, 99), tuple(range(many))]:
                    told = paper(many, winding, wished)
                    self.assertEqual(shown(many, winding, wished, told) is None, told is None)


if __name__ == "__main__":
    unittest.main()
