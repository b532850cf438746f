"""Point 11: levels."""

import unittest

from hearhall.music import levels
from steady import SteadyCase


def plainly(e):
    """As the words say it, with k found step by step."""
    if e == 0:
        return 0
    k = 0
    while 2 ** (k + 1) <= e:
        k += 1
    return 4 * k + (4 * e // 2 ** k - 4)


class Levels(SteadyCase):
    def test_an_empty_row(self):
        self.assertEqual(self.call(levels, []), [0])

    def test_0(self):
        self.assertEqual(self.call(levels, [0]), [0, 0])

    def test_small_numbers(self):
        given = [0, 1, 2, 3, 4, 5, 6, 7, 8, 9, 10, 15, 16]
        told = [0, 0, 0, 4, 6, 8, 9, 10, 11, 12, 12, 13, 15, 16]
        self.assertEqual(self.call(levels, given), told)

    def test_each_number_to_some_thousands(self):
        given = list(range(5000))
        self.same(self.call(levels, given), [0] + [plainly(e) for e in given], "small numbers")

    def test_each_power_of_two(self):
        for k in range(64):
            self.assertEqual(self.call(levels, [2 ** k]), [0, 4 * k])

    def test_next_to_each_power_of_two(self):
        for k in range(3, 64):
            self.assertEqual(self.call(levels, [2 ** k - 1, 2 ** k + 1]), [0, 4 * k - 1, 4 * k])

    def test_quarters_between_powers_of_two(self):
        for k in range(2, 64):
            quarter = 2 ** k // 4
            given = [2 ** k + part * quarter + less for part in (1, 2, 3) for less in (-1, 0)]
            told = [0, 4 * k, 4 * k + 1, 4 * k + 1, 4 * k + 2, 4 * k + 2, 4 * k + 3]
            self.assertEqual(self.call(levels, given), told)

    def test_the_greatest(self):
        self.assertEqual(self.call(levels, [18446744073709551615]), [0, 255])
        self.assertEqual(self.call(levels, [9223372036854775807, 9223372036854775808]), [0, 251, 252])

    def test_in_order(self):
        self.assertEqual(self.call(levels, [8, 1, 0, 5]), [0, 12, 0, 0, 9])

    def test_as_many_as_may_be(self):
        self.same(self.call(levels, [18446744073709551615] * 16000), [0] + [255] * 16000, "a long row")


if __name__ == "__main__":
    unittest.main()
