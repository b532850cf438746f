"""Point 4: turns."""

import unittest

from hearhall.music import turns
from steady import SteadyCase


class Turns(SteadyCase):
    def test_no_number_and_one(self):
        self.assertEqual(self.call(turns, []), [0])
        for number in (-32768, -1, 0, 1, 32767):
            self.assertEqual(self.call(turns, [number]), [0])

    def test_both_ways(self):
        self.assertEqual(self.call(turns, [-1, 1]), [1])
        self.assertEqual(self.call(turns, [1, -1]), [1])
        self.assertEqual(self.call(turns, [-5, 5, -5, 5]), [3])
        self.assertEqual(self.call(turns, [5, -5, 5]), [2])

    def test_0_is_not_below_0(self):
        self.assertEqual(self.call(turns, [0, 1]), [0])
        self.assertEqual(self.call(turns, [1, 0]), [0])
        self.assertEqual(self.call(turns, [0, -1]), [1])
        self.assertEqual(self.call(turns, [-1, 0]), [1])
        self.assertEqual(self.call(turns, [-1, 0, -1]), [2])
        self.assertEqual(self.call(turns, [1, 0, 1]), [0])
        self.assertEqual(self.call(turns, [0, 0]), [0])

    def test_no_turn_between_alike(self):
        self.assertEqual(self.call(turns, [1, 2, 32767]), [0])
        self.assertEqual(self.call(turns, [-1, -32768, -2]), [0])

    def test_the_last_is_not_next_to_the_first(self):
        self.assertEqual(self.call(turns, [-1, -1, 1, 1]), [1])

    def test_at_the_ends(self):
        self.assertEqual(self.call(turns, [-32768, 32767, -32768]), [2])

    def test_a_long_row(self):
        self.assertEqual(self.call(turns, [-1, 0] * 30000), [59999])
        self.assertEqual(self.call(turns, [-1] * 30000 + [0] * 30000), [1])


if __name__ == "__main__":
    unittest.main()
