"""Point 10: peaks."""

import unittest

from hearhall.music import peaks
from steady import SteadyCase

FAR = 4294967295


class Peaks(SteadyCase):
    def test_no_number(self):
        for least in (0, 1, 255, FAR):
            self.assertEqual(self.call(peaks, least, []), [0])

    def test_one_number(self):
        self.assertEqual(self.call(peaks, 0, [0]), [1, 0])
        self.assertEqual(self.call(peaks, 0, [255]), [1, 0])
        self.assertEqual(self.call(peaks, 1, [0]), [0])

    def test_two_numbers(self):
        self.assertEqual(self.call(peaks, 0, [5, 3]), [1, 0])
        self.assertEqual(self.call(peaks, 0, [3, 5]), [1, 1])
        self.assertEqual(self.call(peaks, 0, [5, 5]), [1, 0])

    def test_an_ordinary_row(self):
        self.assertEqual(self.call(peaks, 0, [1, 4, 2, 2, 9, 3, 7, 6]), [3, 1, 4, 6])

    def test_peaks_at_both_ends(self):
        self.assertEqual(self.call(peaks, 0, [5, 1, 5]), [2, 0, 2])
        self.assertEqual(self.call(peaks, 0, [255, 0, 0, 255]), [2, 0, 3])

    def test_no_peak_at_an_end_beside_a_greater_one(self):
        self.assertEqual(self.call(peaks, 0, [1, 5, 1]), [1, 1])

    def test_an_equal_neighbour_before_it_is_no_peak(self):
        self.assertEqual(self.call(peaks, 0, [4, 4, 1]), [1, 0])
        self.assertEqual(self.call(peaks, 0, [1, 4, 4]), [1, 1])

    def test_an_equal_neighbour_behind_it_may_be_one(self):
        self.assertEqual(self.call(peaks, 0, [1, 4, 4, 1]), [1, 1])
        self.assertEqual(self.call(peaks, 0, [1, 4, 4, 4, 1]), [1, 1])
        # Only the one next to it counts: what's behind the equal one may be more.
        self.assertEqual(self.call(peaks, 0, [1, 4, 4, 9]), [2, 1, 3])

    def test_an_even_row(self):
        self.assertEqual(self.call(peaks, 0, [7, 7, 7, 7]), [1, 0])
        self.assertEqual(self.call(peaks, 0, [0, 0, 0]), [1, 0])

    def test_stairs(self):
        self.assertEqual(self.call(peaks, 0, [1, 2, 3, 4]), [1, 3])
        self.assertEqual(self.call(peaks, 0, [4, 3, 2, 1]), [1, 0])
        self.assertEqual(self.call(peaks, 0, [4, 3, 3, 1]), [1, 0])

    def test_least_just_the_peak_and_one_more(self):
        x = [10, 0, 20, 0, 30]
        self.assertEqual(self.call(peaks, 10, x), [3, 0, 2, 4])
        self.assertEqual(self.call(peaks, 11, x), [2, 2, 4])
        self.assertEqual(self.call(peaks, 20, x), [2, 2, 4])
        self.assertEqual(self.call(peaks, 21, x), [1, 4])
        self.assertEqual(self.call(peaks, 30, x), [1, 4])
        self.assertEqual(self.call(peaks, 31, x), [0])

    def test_least_beside_a_neighbour_that_is_too_small(self):
        # A neighbour that is below least is a neighbour all the same.
        self.assertEqual(self.call(peaks, 5, [4, 5, 6, 5, 4]), [1, 2])

    def test_least_far_above_a_byte(self):
        x = [0, 255, 0]
        self.assertEqual(self.call(peaks, 255, x), [1, 1])
        for least in (256, 257, 511, 65536, 2147483648, FAR):
            self.assertEqual(self.call(peaks, least, x), [0])

    def test_as_many_as_may_be(self):
        told = [32768] + list(range(1, 65536, 2))
        self.same(self.call(peaks, 1, [0, 1] * 32768), told, "every other one")
        self.same(self.call(peaks, 0, [255] * 65536), [1, 0], "an even row")


if __name__ == "__main__":
    unittest.main()
