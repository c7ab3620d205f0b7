"""Points 4 and 5: the cells that a needle pricks."""

import unittest

from needleroll.windings import pricked
from tests import model

TWENTY = 10 ** 20 - 1


class Pricked(unittest.TestCase):
    def told(self, many, winding, angle, cells):
        answer = pricked(many, winding, angle)
        self.assertIsInstance(answer, list)
        self.assertEqual(answer, cells, (many, winding, angle))

    def test_turns_of_one_length(self):
        self.told(5, (4, 0, 0), (0, 1), [0, 2, 4])
        self.told(5, (4, 0, 0), (1, 3), [0, 2, 4])
        self.told(5, (4, 0, 0), (1, 2), [1, 3])
        self.told(5, (4, 0, 0), (3, 4), [1, 3])

    def test_turns_that_grow(self):
        # Turns of 4, 5 and 6 halves: 0 to 4, 4 to 9, and 9 on, where the strip ends at 10.
        self.told(5, (4, 1, 0), (0, 1), [0, 2, 4])
        self.told(5, (4, 1, 0), (1, 6), [0, 2])
        self.told(5, (4, 1, 0), (2, 5), [0, 3])
        self.told(5, (4, 1, 0), (1, 2), [1, 3])
        self.told(5, (4, 1, 0), (4, 5), [1, 4])
        self.told(5, (4, 1, 0), (99, 100), [1, 4])

    def test_the_other_end(self):
        self.told(5, (4, 1, 1), (0, 1), [0, 2, 4])
        self.told(5, (4, 1, 1), (1, 6), [2, 4])
        self.told(5, (4, 1, 1), (2, 5), [1, 4])
        self.told(5, (4, 1, 1), (1, 2), [1, 3])
        self.told(5, (4, 1, 1), (4, 5), [0, 3])
        self.told(4, (4, 0, 1), (0, 1), [1, 3])
        self.told(4, (4, 0, 1), (1, 2), [0, 2])

    def test_one_cell(self):
        for end in (0, 1):
            for growth in (0, 8):
                self.told(1, (4, growth, end), (0, 1), [0])
                self.told(1, (4, growth, end), (49, 100), [0])
                self.told(1, (4, growth, end), (1, 2), [])
                self.told(1, (4, growth, end), (51, 100), [])
                self.told(1, (16, growth, end), (0, 1), [0])
                self.told(1, (16, growth, end), (1, 8), [])

    def test_twenty_four_cells(self):
        self.told(24, (4, 0, 0), (0, 1), list(range(0, 24, 2)))
        self.told(24, (4, 0, 0), (1, 2), list(range(1, 24, 2)))
        self.told(24, (4, 0, 1), (0, 1), list(range(1, 24, 2)))
        self.told(24, (4, 0, 1), (1, 2), list(range(0, 24, 2)))
        # Turns of 16, 24 and 32 halves: the strip ends at a fourth of the outermost one.
        self.told(24, (16, 8, 0), (0, 1), [0, 8, 20])
        self.told(24, (16, 8, 0), (1, 4), [2, 11])
        self.told(24, (16, 8, 1), (0, 1), [3, 15, 23])
        self.told(24, (16, 8, 1), (1, 4), [12, 21])

    def test_a_strip_shorter_than_its_first_turn(self):
        self.told(3, (10, 2, 0), (0, 1), [0])
        self.told(3, (10, 2, 0), (1, 5), [1])
        self.told(3, (10, 2, 0), (2, 5), [2])
        self.told(3, (10, 2, 0), (3, 5), [])
        self.told(3, (10, 2, 0), (9, 10), [])
        self.told(3, (10, 2, 1), (0, 1), [2])
        self.told(3, (10, 2, 1), (2, 5), [0])

    def test_a_strip_that_fills_its_turns(self):
        self.told(2, (4, 0, 0), (0, 1), [0])
        self.told(2, (4, 0, 0), (99, 100), [1])
        self.told(5, (4, 2, 0), (0, 1), [0, 2])
        self.told(5, (4, 2, 0), (99, 100), [1, 4])

    def test_ahead_of_the_end_of_the_strip_at_it_and_behind_it(self):
        # The last turn has 6 halves, and the strip ends after one of them.
        self.told(5, (4, 1, 0), (16, 100), [0, 2, 4])
        self.told(5, (4, 1, 0), (1, 6), [0, 2])
        self.told(5, (4, 1, 0), (17, 100), [0, 2])
        self.told(5, (4, 1, 0), (16666666666666666666, TWENTY), [0, 2, 4])
        self.told(5, (4, 1, 0), (16666666666666666667, TWENTY), [0, 2])

    def test_a_cell_on_two_turns(self):
        # Cell 4 lies at the last fifth of its turn, and at the first sixth of the next one.
        angles = [(0, 1), (1, 7), (1, 6), (1, 2), (79, 100), (4, 5), (9, 10)]
        lies = [4 in pricked(5, (4, 1, 0), angle) for angle in angles]
        self.assertEqual(lies, [True, True, False, False, False, True, True])

    def test_where_a_cell_begins_the_one_ahead_of_it_has_ended(self):
        self.told(2, (4, 0, 0), ((TWENTY - 1) // 2, TWENTY), [0])
        self.told(2, (4, 0, 0), (1, 2), [1])
        self.told(2, (4, 0, 0), ((TWENTY + 1) // 2, TWENTY), [1])
        self.told(2, (4, 0, 1), ((TWENTY - 1) // 2, TWENTY), [1])
        self.told(2, (4, 0, 1), (1, 2), [0])
        self.told(2, (4, 0, 1), ((TWENTY + 1) // 2, TWENTY), [0])

    def test_the_last_angles(self):
        self.told(5, (4, 1, 0), (TWENTY - 1, TWENTY), [1, 4])
        self.told(4, (5, 3, 0), (1, TWENTY), [0, 2])
        self.told(4, (5, 3, 0), (TWENTY - 1, TWENTY), [2])

    def test_every_strip_at_the_edges_of_its_cells_and_right_beside_them(self):
        for many in (1, 2, 3, 7, 12, 23, 24):
            for winding in model.SOME_WINDINGS:
                for begin, _, _ in model.stretches(many, winding):
                    top, bottom = begin
                    beside = [begin, (top * 10 ** 17 + 1, bottom * 10 ** 17)]
                    if top > 0:
                        beside.append((top * 10 ** 17 - 1, bottom * 10 ** 17))
                    for angle in beside:
                        self.told(many, winding, angle, model.pricked(many, winding, angle))

    def test_cells_are_rising(self):
        for winding in model.WINDINGS:
            cells = pricked(24, winding, (1, 3))
            self.assertEqual(cells, sorted(set(cells)))

    def test_wound_from_the_other_end_all_is_as_on_the_strip_told_backward(self):
        for many in (1, 2, 5, 13, 24):
            for girth, growth, end in model.WINDINGS:
                for angle in [(0, 1), (1, 7), (1, 2), (5, 6), (TWENTY - 1, TWENTY)]:
                    cells = pricked(many, (girth, growth, end), angle)
                    backward = sorted(many - 1 - cell for cell in cells)
                    self.told(many, (girth, growth, 1 - end), angle, backward)

    def test_each_list_is_a_new_one(self):
        first = pricked(5, (4, 1, 0), (0, 1))
        second = pricked(5, (4, 1, 0), (0, 1))
        first.append(99)
        del first[0]
        self.assertEqual(second, [0, 2, 4])
        self.told(5, (4, 1, 0), (0, 1), [0, 2, 4])

    def test_somewhat_beyond_the_limits_no_error_is_raised(self):
        for many in (0, 1, 25, 40):
            for girth in (-1, 0, 1, 3, 17, 40):
                for growth in (-1, 0, 9, 20):
                    for end in (0, 1, 2):
                        self.assertIsInstance(pricked(many, (girth, growth, end), (1, 3)), list)


if __name__ == "__main__":
    unittest.main()
