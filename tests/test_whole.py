"""Points 2 and 3: what holds over the whole program."""

import copy
import unittest

from needleroll.errors import RollError
from needleroll.fewest import fewest_pricks, paper, shown
from needleroll.found import fewest_of_all, windings_of
from needleroll.light import light
from needleroll.rolls import Roll
from needleroll.windings import is_winding, pricked, stretches
from needleroll.wishes import barred, makeable
from tests import model

QUESTIONS = [
    (pricked, (11, (4, 1, 0), (1, 3))),
    (stretches, (11, (4, 1, 0))),
    (barred, (11, (4, 1, 0), (0, 3, 4))),
    (makeable, (11, (4, 1, 0), (0, 3, 4))),
    (fewest_pricks, (11, (4, 1, 0), tuple(range(11)))),
    (paper, (11, (4, 1, 0), tuple(range(11)))),
    (light, (11, (4, 1, 0), tuple(range(10)))),
    (windings_of, (11, (0, 2, 4, 6, 8, 10))),
    (fewest_of_all, (11, (0, 2, 4, 6, 8, 10))),
]


def number_of(pricks):
    return None if pricks is None else len(pricks)


class Anything(unittest.TestCase):
    def test_what_is_told_of_anything_is_told_or_refused(self):
        for thing in model.ANYTHING:
            self.assertIsInstance(is_winding(thing), bool)
            answer = shown(5, (5, 0, 0), (0, 1, 2, 3, 4), thing)
            self.assertTrue(answer is None or type(answer) is int)
            roll = Roll(5)
            for asked in (Roll, roll.wind, roll.prick):
                try:
                    asked(thing)
                except RollError:
                    pass

    def test_what_is_handed_in_is_not_changed(self):
        for thing in model.ANYTHING:
            kept = copy.deepcopy(thing)
            roll = Roll(5)
            for asked in (is_winding, Roll, roll.wind, roll.prick, lambda part: shown(5, (5, 0, 0), (0, 1), part)):
                try:
                    asked(thing)
                except RollError:
                    pass
            self.assertEqual(repr(thing), repr(kept))


class Again(unittest.TestCase):
    def test_the_same_asked_again_is_answered_the_same(self):
        first = [repr(ask(*handed)) for ask, handed in QUESTIONS]
        for many in (3, 24):
            for winding in model.SOME_WINDINGS:
                fewest_pricks(many, winding, tuple(range(many)))
                light(many, winding, (0, 1))
        Roll(11).wind((4, 1, 0))
        again = [repr(ask(*handed)) for ask, handed in reversed(QUESTIONS)]
        self.assertEqual(again[::-1], first)

    def test_nothing_done_to_a_told_list_changes_another_one(self):
        for ask, handed in QUESTIONS:
            answer = ask(*handed)
            if isinstance(answer, list):
                second, kept = ask(*handed), repr(answer)
                self.assertIsNot(answer, second)
                answer.reverse()
                answer.append(None)
                self.assertEqual(repr(second), kept)
                self.assertEqual(repr(ask(*handed)), kept)

    def test_all_else_that_is_told_is_tuples_and_numbers_throughout(self):
        def check(part):
            self.assertIn(type(part), (tuple, int))
            if type(part) is tuple:
                for inner in part:
                    check(inner)

        for ask, handed in QUESTIONS:
            answer = ask(*handed)
            for part in answer if isinstance(answer, list) else [answer]:
                check(part)


class Promise(unittest.TestCase):
    def test_wishes_are_either_barred_or_made_by_pricks_that_a_paper_shows_to_be_the_fewest(self):
        for many in (1, 3, 6):
            for winding in model.SOME_WINDINGS:
                for wished in model.subsets(many):
                    asked = (many, winding, wished)
                    pricks = fewest_pricks(*asked)
                    self.assertEqual(pricks is None, barred(*asked) != [], asked)
                    if pricks is not None:
                        roll = Roll(many)
                        roll.wind(winding)
                        for angle in pricks:
                            roll.prick(angle)
                        self.assertEqual(roll.holes(), wished)
                        self.assertEqual(shown(*asked, paper(*asked)), len(pricks))

    def test_a_cell_has_a_hole_just_where_some_needle_went_through_it(self):
        angles = [(2, 7), (0, 1), (5, 6), (10 ** 20 - 2, 10 ** 20 - 1)]
        for winding in model.WINDINGS:
            roll = Roll(13)
            roll.wind(winding)
            holes = set()
            for angle in angles:
                fresh = roll.prick(angle)
                self.assertFalse(holes & set(fresh))
                holes |= set(model.pricked(13, winding, angle))
                self.assertEqual(roll.holes(), tuple(sorted(holes)))

    def test_light_comes_through_just_where_a_needle_would_make_no_new_hole(self):
        for winding in model.SOME_WINDINGS:
            roll = Roll(7)
            roll.wind(winding)
            roll.prick((1, 5))
            roll.prick((2, 3))
            rows = [(model.Fraction(*begin), model.Fraction(*end)) for begin, end in roll.light()]
            for top in range(35):
                worth = model.Fraction(top, 35)
                fresh = roll.prick(model.pair(worth))
                roll.back()
                self.assertEqual(any(begin <= worth < end for begin, end in rows), fresh == ())

    def test_a_found_strip_was_made_by_one_of_the_told_windings(self):
        for holes in model.subsets(5):
            told = windings_of(5, holes)
            right = [winding for winding in model.WINDINGS if fewest_pricks(5, winding, holes) is not None]
            self.assertEqual(told, right)
            numbers = [len(fewest_pricks(5, winding, holes)) for winding in right]
            best = (min(numbers), right[numbers.index(min(numbers))]) if right else None
            self.assertEqual(fewest_of_all(5, holes), best)

    def test_wound_from_the_other_end_all_is_as_on_the_strip_told_backward(self):
        for many in (5, 8):
            for girth, growth, end in model.SOME_WINDINGS:
                here, there = (girth, growth, end), (girth, growth, 1 - end)
                for wished in model.subsets(many)[:: many - 4]:
                    turned = model.backward(many, wished)
                    one, other = fewest_pricks(many, here, wished), fewest_pricks(many, there, turned)
                    self.assertEqual(number_of(one), number_of(other))
                    self.assertEqual(light(many, here, wished), light(many, there, turned))
                    shows = paper(many, here, wished)
                    if shows:
                        families = tuple(model.backward(many, family) for family in shows[1])
                        thing = (many - 1 - shows[0], families)
                        self.assertEqual(shown(many, there, turned, thing), len(one))

    def test_a_roll_from_the_other_end_is_as_the_strip_told_backward(self):
        for girth, growth, end in model.WINDINGS:
            one, other = Roll(9), Roll(9)
            one.wind((girth, growth, end))
            other.wind((girth, growth, 1 - end))
            for angle in [(1, 3), (0, 1), (7, 8)]:
                self.assertEqual(model.backward(9, one.prick(angle)), other.prick(angle))
                self.assertEqual(one.light(), other.light())

    def test_what_can_be_made_of_two_wishes_can_be_made_of_both_by_no_more_pricks(self):
        for winding in model.SOME_WINDINGS:
            numbers = {wished: number_of(fewest_pricks(6, winding, wished)) for wished in model.subsets(6)}
            made = [wished for wished in numbers if numbers[wished] is not None]
            for one in made:
                for other in made:
                    both = tuple(sorted(set(one) | set(other)))
                    self.assertIsNotNone(numbers[both])
                    self.assertLessEqual(numbers[both], numbers[one] + numbers[other])


if __name__ == "__main__":
    unittest.main()
