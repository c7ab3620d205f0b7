"""Point 4: whether a thing is a winding; point 2: what is told of anything."""

import unittest

from needleroll.windings import is_winding
from tests import model


def nested(kind, depth):
    thing = 4
    for _ in range(depth):
        thing = kind([thing])
    return thing


class IsWinding(unittest.TestCase):
    def is_one(self, thing):
        self.assertIs(is_winding(thing), True, thing)

    def is_none(self, thing):
        self.assertIs(is_winding(thing), False, thing)

    def test_all_windings(self):
        for winding in model.WINDINGS:
            self.is_one(winding)

    def test_just_these_of_all_about_the_bounds(self):
        for girth in range(-1, 20):
            for growth in range(-2, 12):
                for end in range(-2, 4):
                    within = 4 <= girth <= 16 and 0 <= growth <= 8 and 0 <= end <= 1
                    self.assertIs(is_winding((girth, growth, end)), within)

    def test_each_bound_and_one_beyond_it(self):
        for thing in [(4, 3, 0), (16, 3, 0), (9, 0, 0), (9, 8, 0), (9, 3, 0), (9, 3, 1)]:
            self.is_one(thing)
        for thing in [(3, 3, 0), (17, 3, 0), (9, -1, 0), (9, 9, 0), (9, 3, -1), (9, 3, 2)]:
            self.is_none(thing)

    def test_truths_are_no_numbers(self):
        for truth in (True, False):
            self.is_none(truth)
            self.is_none((truth, 3, 0))
            self.is_none((9, truth, 0))
            self.is_none((9, 3, truth))
            self.is_none((truth, truth, truth))

    def test_lists_are_no_windings(self):
        self.is_none([9, 3, 0])
        self.is_none([(9, 3, 0)])
        self.is_none([])
        for at in range(3):
            parts = [9, 3, 0]
            parts[at] = [parts[at]]
            self.is_none(tuple(parts))

    def test_too_short_and_too_long(self):
        for thing in [(), (9,), (9, 3), (9, 3, 0, 0), (9, 3, 0, None), (4,) * 300]:
            self.is_none(thing)

    def test_other_things(self):
        for thing in [None, 0, 9, -1, "", "930", "abc", "x" * 100, (None, None, None), ("9", "3", "0"), b"abc"]:
            self.is_none(thing)
        for other in [None, "", "4", "x" * 100, [], (), (4,), [4]]:
            self.is_none((other, 3, 0))
            self.is_none((9, other, 0))
            self.is_none((9, 3, other))

    def test_nested_things(self):
        for depth in range(1, 7):
            for kind in (list, tuple):
                self.is_none(nested(kind, depth))
                self.is_none((nested(kind, depth), 3, 0))
                self.is_none((9, nested(kind, depth), 0))
                self.is_none((9, 3, nested(kind, depth)))
        self.is_none(((9, 3, 0),))
        self.is_none(((9, 3, 0), (9, 3, 0), (9, 3, 0)))

    def test_numbers_of_twenty_figures(self):
        for number in (10 ** 19, 10 ** 20 - 1, 1 - 10 ** 20, 2 ** 64 + 4):
            self.is_none(number)
            self.is_none((number, 3, 0))
            self.is_none((9, number, 0))
            self.is_none((9, 3, number))

    def test_what_is_handed_in_is_not_changed(self):
        thing = [9, [3], 0]
        is_winding(thing)
        is_winding((thing, thing, thing))
        self.assertEqual(thing, [9, [3], 0])


if __name__ == "__main__":
    unittest.main()
