"""Point 10: a roll, deed by deed."""

import random
import unittest

from needleroll.errors import NoAngle, NoStrip, NothingLeft, NotWound, NoWinding, RollError
from needleroll.rolls import Roll
from tests import model

# Of 5 cells GROWING pricks (0, 2, 4), (0, 2) from 1/6, (0, 3) from 2/5, (1, 3) from 1/2 and (1, 4) from 4/5 on.
GROWING = (4, 1, 0)
EVEN = (4, 0, 0)
NO_ANGLES = [
    (1, 1), (2, 1), (3, 2), (-1, 2), (0, 2), (0, 0), (1, 0), (0, -1), (-1, -2), (1, -2), (2, 4), (3, 9), (10, 20),
    (True, 2), (1, True), (False, 1), (0, True), (False, True), [1, 2], [0, 1], (1,), (1, 2, 3), (0, 1, 1), ("1", "2"),
    (None, 2), (1, None), ((1,), 2), (1, [2]), ((1, 2),), ((1, 2), (1, 2)), "12", (10 ** 20 - 1, 10 ** 20 - 1),
    (10 ** 20 - 1, 10 ** 19), (5 * 10 ** 18, 10 ** 19), (1 - 10 ** 20, 10 ** 20 - 1),
]
NO_WINDINGS = [
    (3, 0, 0), (17, 0, 0), (4, -1, 0), (4, 9, 0), (4, 0, -1), (4, 0, 2), [4, 0, 0], (4, 0), (4, 0, 0, 0),
    (4, False, 0), (4, 0, True), (4, True, 1), (True, 0, 0), ("4", "0", "0"), ((4, 0, 0),), (4, (0,), 0), (4, None, 0),
    (10 ** 19, 0, 0), (4, 0, 1 - 10 ** 20),
]


def look(roll):
    """All that is told of the roll."""
    return (roll.winding(), roll.holes(), roll.pricks(), len(roll), roll.winding() and roll.light())


class Rolls(unittest.TestCase):
    def wound(self, many, winding):
        roll = Roll(many)
        roll.wind(winding)
        return roll

    def refused(self, roll, error, deed, *handed):
        before = look(roll)
        with self.assertRaises(error) as caught:
            deed(*handed)
        self.assertIs(type(caught.exception), error)
        self.assertEqual(look(roll), before)

    def test_at_first(self):
        for many in model.LENGTHS:
            roll = Roll(many)
            self.assertIsNone(roll.winding())
            self.assertEqual(roll.holes(), ())
            self.assertIs(type(roll.holes()), tuple)
            self.assertEqual(roll.pricks(), 0)
            self.assertEqual(len(roll), 0)

    def test_no_strip(self):
        for thing in [0, 25, -1, 10 ** 20 - 1, 1 - 10 ** 20, True, False, None, "5", "", [5], (5,), [], ()]:
            with self.assertRaises(NoStrip):
                Roll(thing)
        for thing in model.ANYTHING:
            if thing not in (1, 4, 24) or isinstance(thing, bool):
                with self.assertRaises(NoStrip):
                    Roll(thing)

    def test_no_winding(self):
        for roll in (Roll(5), self.wound(5, GROWING)):
            for thing in NO_WINDINGS + model.ANYTHING:
                self.refused(roll, NoWinding, roll.wind, thing)

    def test_no_angle(self):
        roll = self.wound(5, GROWING)
        for thing in NO_ANGLES + model.ANYTHING:
            self.refused(roll, NoAngle, roll.prick, thing)

    def test_no_angle_goes_ahead_of_not_wound(self):
        roll = Roll(5)
        for thing in NO_ANGLES + model.ANYTHING:
            self.refused(roll, NoAngle, roll.prick, thing)

    def test_not_wound(self):
        roll = Roll(5)
        for angle in [(0, 1), (1, 2), (10 ** 20 - 2, 10 ** 20 - 1)]:
            self.refused(roll, NotWound, roll.prick, angle)
        self.refused(roll, NotWound, roll.light)
        self.refused(roll, NothingLeft, roll.back)

    def test_not_wound_again_after_all_is_taken_back(self):
        roll = self.wound(5, GROWING)
        roll.back()
        self.refused(roll, NotWound, roll.prick, (0, 1))
        self.refused(roll, NotWound, roll.light)
        self.refused(roll, NothingLeft, roll.back)

    def test_refusals_are_told_of_one_roll_error(self):
        with self.assertRaises(RollError):
            Roll(0)
        with self.assertRaises(ValueError):
            Roll(5).back()

    def test_wound_and_pricked(self):
        roll = Roll(5)
        self.assertIsNone(roll.wind(GROWING))
        self.assertEqual(roll.winding(), GROWING)
        self.assertIs(type(roll.winding()), tuple)
        self.assertEqual(roll.light(), [])
        self.assertEqual(roll.prick((1, 6)), (0, 2))
        self.assertEqual(roll.prick((2, 5)), (3,))
        self.assertEqual(roll.prick((0, 1)), (4,))
        self.assertEqual((roll.holes(), len(roll), roll.pricks()), ((0, 2, 3, 4), 4, 3))
        self.assertEqual(roll.light(), [((0, 1), (1, 2))])

    def test_new_holes_and_holes_are_rising_tuples(self):
        roll = self.wound(24, (4, 0, 1))
        self.assertEqual(roll.prick((1, 2)), tuple(range(0, 24, 2)))
        self.assertEqual(roll.prick((0, 1)), tuple(range(1, 24, 2)))
        self.assertEqual(roll.holes(), tuple(range(24)))
        self.assertIs(type(roll.prick((0, 1))), tuple)

    def test_a_prick_that_makes_no_new_hole(self):
        roll = self.wound(5, GROWING)
        roll.prick((0, 1))
        self.assertEqual(roll.prick((1, 6)), ())
        self.assertEqual(roll.prick((0, 1)), ())
        self.assertEqual((roll.holes(), len(roll), roll.pricks()), ((0, 2, 4), 3, 3))
        for left in (2, 1):
            roll.back()
            self.assertEqual((roll.holes(), roll.pricks()), ((0, 2, 4), left))
        roll.back()
        self.assertEqual((roll.holes(), roll.pricks(), roll.winding()), ((), 0, GROWING))

    def test_a_prick_through_nothing(self):
        roll = self.wound(3, (10, 2, 0))
        self.assertEqual(roll.prick((9, 10)), ())
        self.assertEqual((roll.holes(), len(roll), roll.pricks()), ((), 0, 1))
        roll.back()
        self.assertEqual((roll.pricks(), roll.winding()), (0, (10, 2, 0)))

    def test_wound_again_as_it_is(self):
        roll = self.wound(5, GROWING)
        roll.prick((1, 2))
        roll.wind(GROWING)
        self.assertEqual((roll.winding(), roll.holes(), roll.pricks()), (GROWING, (1, 3), 1))
        roll.back()
        self.assertEqual((roll.winding(), roll.holes(), roll.pricks()), (GROWING, (1, 3), 1))
        roll.back()
        self.assertEqual((roll.winding(), roll.holes(), roll.pricks()), (GROWING, (), 0))
        roll.back()
        self.assertIsNone(roll.winding())

    def test_wound_otherwise_it_keeps_its_holes(self):
        roll = self.wound(5, GROWING)
        roll.prick((2, 5))
        roll.wind(EVEN)
        self.assertEqual((roll.winding(), roll.holes(), roll.pricks()), (EVEN, (0, 3), 1))
        self.assertEqual(roll.light(), [])
        self.assertEqual(roll.prick((1, 2)), (1,))
        self.assertEqual(roll.light(), [((1, 2), (1, 1))])
        roll.back()
        roll.back()
        self.assertEqual((roll.winding(), roll.holes(), roll.pricks()), (GROWING, (0, 3), 1))
        self.assertEqual(roll.light(), [((2, 5), (1, 2))])

    def test_back_to_the_very_first(self):
        roll = Roll(5)
        deeds = [(roll.wind, GROWING), (roll.prick, (0, 1)), (roll.prick, (0, 1)), (roll.wind, GROWING),
                 (roll.wind, EVEN), (roll.prick, (1, 2)), (roll.wind, (5, 0, 1)), (roll.prick, (99, 100))]
        seen = []
        for deed, handed in deeds:
            seen.append(look(roll))
            deed(handed)
        for before in reversed(seen):
            self.assertIsNone(roll.back())
            self.assertEqual(look(roll), before)
        self.refused(roll, NothingLeft, roll.back)
        self.refused(roll, NothingLeft, roll.back)
        self.assertEqual(roll, Roll(5))

    def test_what_is_refused_changes_nothing_of_what_is_taken_back(self):
        roll = Roll(5)
        self.refused(roll, NotWound, roll.prick, (0, 1))
        self.refused(roll, NoWinding, roll.wind, (3, 0, 0))
        self.refused(roll, NothingLeft, roll.back)
        roll.wind(GROWING)
        self.refused(roll, NoWinding, roll.wind, (3, 0, 0))
        self.refused(roll, NoAngle, roll.prick, (2, 4))
        roll.prick((1, 2))
        self.refused(roll, NoAngle, roll.prick, (1, 1))
        self.refused(roll, NoWinding, roll.wind, None)
        roll.back()
        self.assertEqual((roll.winding(), roll.holes()), (GROWING, ()))
        roll.back()
        self.assertIsNone(roll.winding())
        self.refused(roll, NothingLeft, roll.back)

    def test_light_and_other_questions_are_no_deeds(self):
        roll = self.wound(5, GROWING)
        for _ in range(3):
            look(roll)
            self.assertEqual(roll, roll)
        roll.back()
        self.refused(roll, NothingLeft, roll.back)

    def test_deeds_by_chance_against_those_done_anew(self):
        chance = random.Random(10)
        for _ in range(40):
            many = chance.randint(1, 24)
            roll, done = Roll(many), []
            for _ in range(60):
                deed = chance.choice(["wind", "prick", "prick", "prick", "back"])
                if deed == "wind":
                    done.append(chance.choice(model.WINDINGS))
                    roll.wind(done[-1])
                elif deed == "back" and done:
                    done.pop()
                    roll.back()
                elif deed == "prick" and roll.winding() is not None:
                    top = chance.choice([0, 1, chance.randint(0, 10 ** 20 - 2)])
                    angle = model.pair(model.Fraction(top, chance.choice([97, 10 ** 20 - 1])) % 1)
                    before = roll.holes()
                    cells = model.pricked(many, roll.winding(), angle)
                    fresh = tuple(cell for cell in cells if cell not in before)
                    self.assertEqual(roll.prick(angle), fresh)
                    done.append(angle)
                self.same_as_done_anew(many, roll, done)

    def same_as_done_anew(self, many, roll, done):
        winding, holes, pricks = None, set(), 0
        for handed in done:
            if len(handed) == 3:
                winding = handed
            else:
                holes |= set(model.pricked(many, winding, handed))
                pricks += 1
        told = tuple(sorted(holes))
        self.assertEqual((roll.winding(), roll.holes(), roll.pricks(), len(roll)), (winding, told, pricks, len(told)))
        if winding is not None:
            self.assertEqual(roll.light(), model.light(many, winding, told))

    def test_many_deeds(self):
        roll = self.wound(24, GROWING)
        for _ in range(5000):
            roll.prick((1, 3))
        self.assertEqual(roll.pricks(), 5000)
        for _ in range(5001):
            roll.back()
        self.refused(roll, NothingLeft, roll.back)

    def test_the_list_of_light_is_a_new_one(self):
        roll = self.wound(5, GROWING)
        roll.prick((1, 2))
        first, second = roll.light(), roll.light()
        first.clear()
        self.assertEqual(second, [((1, 2), (4, 5))])
        self.assertEqual(roll.light(), second)
        roll.prick((0, 1))
        self.assertEqual(second, [((1, 2), (4, 5))])

    def test_what_was_told_stays_as_it_was(self):
        roll = self.wound(5, GROWING)
        roll.prick((1, 2))
        told = (roll.winding(), roll.holes(), roll.pricks())
        roll.wind(EVEN)
        roll.prick((0, 1))
        self.assertEqual(told, (GROWING, (1, 3), 1))

    def test_the_methods_stand_in_the_class_itself(self):
        for name in ["wind", "back", "prick", "winding", "holes", "light", "pricks", "__init__", "__len__", "__eq__"]:
            self.assertIn(name, vars(Roll))


class Equal(unittest.TestCase):
    def made(self, many, *deeds):
        roll = Roll(many)
        for handed in deeds:
            if len(handed) == 3:
                roll.wind(handed)
            else:
                roll.prick(handed)
        return roll

    def same(self, one, other):
        self.assertIs(one == other, True)
        self.assertIs(other == one, True)
        self.assertIs(one != other, False)

    def unlike(self, one, other):
        self.assertIs(one == other, False)
        self.assertIs(other == one, False)
        self.assertIs(one != other, True)

    def test_new_rolls(self):
        self.same(Roll(5), Roll(5))
        self.unlike(Roll(5), Roll(6))

    def test_what_came_to_the_same_in_other_ways(self):
        one = self.made(5, GROWING, (0, 1), (1, 2))
        self.same(one, self.made(5, GROWING, (1, 2), (0, 1)))
        self.same(one, self.made(5, GROWING, (3, 5), (1, 7)))
        self.same(one, self.made(5, EVEN, (0, 1), (1, 2), GROWING))
        self.same(one, self.made(5, EVEN, GROWING, GROWING, (0, 1), (1, 2)))

    def test_what_was_taken_back_does_not_count(self):
        one = self.made(5, GROWING, (0, 1), (1, 2), EVEN)
        one.back()
        one.back()
        self.same(one, self.made(5, GROWING, (0, 1)))
        one.back()
        one.back()
        self.same(one, Roll(5))

    def test_unlike_in_the_strip_alone(self):
        self.unlike(self.made(5, GROWING), self.made(6, GROWING))
        self.unlike(self.made(2, (16, 0, 0), (0, 1)), self.made(3, (16, 0, 0), (0, 1)))

    def test_unlike_in_the_winding_alone(self):
        self.unlike(Roll(5), self.made(5, GROWING))
        for other in [(5, 1, 0), (4, 2, 0), (4, 1, 1)]:
            self.unlike(self.made(5, GROWING), self.made(5, other))
        self.unlike(self.made(5, GROWING, (0, 1)), self.made(5, GROWING, (0, 1), EVEN))

    def test_unlike_in_the_holes_alone(self):
        self.unlike(self.made(5, GROWING, (1, 6)), self.made(5, GROWING, (2, 5)))
        self.unlike(self.made(3, (10, 0, 0), (0, 1)), self.made(3, (10, 0, 0), (9, 10)))

    def test_unlike_in_the_number_of_pricks_alone(self):
        self.unlike(self.made(5, GROWING, (0, 1)), self.made(5, GROWING, (0, 1), (0, 1)))
        self.unlike(self.made(3, (10, 0, 0)), self.made(3, (10, 0, 0), (9, 10)))

    def test_other_things(self):
        for roll in (Roll(5), Roll(1), self.made(5, GROWING, (0, 1))):
            others = [5, 3, (5, None, (), 0), (5, GROWING, (0, 2, 4), 1), [0, 2, 4], (0, 2, 4), GROWING, Roll]
            for thing in others + model.ANYTHING:
                self.unlike(roll, thing)

    def test_no_two_rolls_have_anything_in_common(self):
        one, other = Roll(5), Roll(5)
        one.wind(GROWING)
        one.prick((0, 1))
        self.assertEqual((other.winding(), other.holes(), other.pricks()), (None, (), 0))
        with self.assertRaises(NothingLeft):
            other.back()


if __name__ == "__main__":
    unittest.main()
