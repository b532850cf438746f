"""Point 3: sum, by its name sum_of."""

import unittest

from hearhall.music import sum_of
from steady import SteadyCase


class SumOf(SteadyCase):
    def test_an_ordinary_sum(self):
        self.assertEqual(self.call(sum_of, [1, 2, 3], [4, 5, 6]), [32])

    def test_below_0(self):
        self.assertEqual(self.call(sum_of, [1, -2, 3], [4, 5, -6]), [-24])
        # These look like refusals, and are none.
        self.assertEqual(self.call(sum_of, [1], [-1]), [-1])
        self.assertEqual(self.call(sum_of, [-1, 1], [1, -1]), [-2])

    def test_two_below_0_give_one_above(self):
        self.assertEqual(self.call(sum_of, [-3, -4], [-5, -6]), [39])

    def test_what_outweighs_itself_is_0(self):
        self.assertEqual(self.call(sum_of, [7, -7], [9, 9]), [0])

    def test_empty_rows(self):
        self.assertEqual(self.call(sum_of, [], []), [0])

    def test_one_product_is_not_held(self):
        self.assertEqual(self.call(sum_of, [-32768], [-32768]), [1073741824])
        self.assertEqual(self.call(sum_of, [-32768], [32767]), [-1073709056])

    def test_too_large_for_32_bits(self):
        self.assertEqual(self.call(sum_of, [-32768] * 2, [-32768] * 2), [2147483648])
        self.assertEqual(self.call(sum_of, [-32768] * 4, [-32768] * 4), [4294967296])
        self.assertEqual(self.call(sum_of, [-32768] * 3, [32767] * 3), [-3221127168])
        self.assertEqual(self.call(sum_of, [-32768] * 60000, [-32768] * 60000), [64424509440000])
        self.assertEqual(self.call(sum_of, [-32768] * 60000, [32767] * 60000), [-64422543360000])

    def test_a_large_sum_is_exact(self):
        both = [-32768] * 59999 + [1]
        self.assertEqual(self.call(sum_of, both, list(both)), [64423435698177])

    def test_one_row_as_both(self):
        both = [3, -4, 12]
        self.assertEqual(self.call(sum_of, both, both), [169])


if __name__ == "__main__":
    unittest.main()
