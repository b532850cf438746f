"""Point 14: pitch."""

import random
import unittest

from hearhall.music import pitch
from steady import SteadyCase

FAR = 4294967295


def plain_lag(x, j):
    total = 0
    for i in range(len(x)):
        if i + j < len(x):
            total += x[i] * x[i + j]
    return total


def plainly(low, high, x):
    """Lag by lag, as the words say it."""
    if not (1 <= low <= high and high + 1 < len(x)):
        return [0]
    lag = {j: plain_lag(x, j) for j in range(low - 1, high + 2)}
    top = max(lag[j] for j in range(low, high + 1))
    if not top > 0:
        return [0]
    for j in range(low, high + 1):
        if lag[j] >= lag[j - 1] and lag[j] >= lag[j + 1] and 8 * lag[j] >= 7 * top:
            return [j]
    return [0]


def three(first, second, third):
    """A row whose lags, but for 0, are 0 up to 7 except two: lag 3 is first by second, lag 5 second by third."""
    return [first, 0, 0, second, 0, 0, 0, 0, third]


class Bounds(SteadyCase):
    def test_low_of_0(self):
        x = [1, 0, 0, 1, 0, 0, 1]
        self.assertEqual(self.call(pitch, 0, 4, x), [0])
        self.assertEqual(self.call(pitch, 0, 0, x), [0])
        self.assertEqual(self.call(pitch, 1, 4, x), [3])

    def test_low_above_high(self):
        x = [1, 0, 0, 1, 0, 0, 1]
        self.assertEqual(self.call(pitch, 4, 3, x), [0])
        self.assertEqual(self.call(pitch, 3, 2, x), [0])
        self.assertEqual(self.call(pitch, FAR, 4, x), [0])
        self.assertEqual(self.call(pitch, 3, 3, x), [3])

    def test_high_at_its_end(self):
        # high + 1 is n - 1, then just n, then more.
        self.assertEqual(self.call(pitch, 3, 3, [1, 0, 0, 1, 0]), [3])
        self.assertEqual(self.call(pitch, 3, 3, [1, 0, 0, 1]), [0])
        self.assertEqual(self.call(pitch, 1, 4, [1, 0, 0, 1, 0, 0]), [3])
        self.assertEqual(self.call(pitch, 1, 5, [1, 0, 0, 1, 0, 0]), [0])
        self.assertEqual(self.call(pitch, 1, FAR, [1, 0, 0, 1, 0, 0]), [0])
        self.assertEqual(self.call(pitch, FAR, FAR, [1, 0, 0, 1, 0, 0]), [0])

    def test_short_rows(self):
        for x in ([], [1], [1, 1]):
            self.assertEqual(self.call(pitch, 1, 1, x), [0])
            self.assertEqual(self.call(pitch, 0, 0, x), [0])
        self.assertEqual(self.call(pitch, 1, 1, [1, 1, 1]), [0])


class Lags(SteadyCase):
    def test_a_greatest_lag_of_0(self):
        self.assertEqual(self.call(pitch, 1, 4, [0] * 8), [0])
        self.assertEqual(self.call(pitch, 1, 4, [9] + [0] * 8), [0])

    def test_a_greatest_lag_below_0(self):
        self.assertEqual(self.call(pitch, 3, 3, [1, 0, 0, -1, 0]), [0])
        self.assertEqual(self.call(pitch, 1, 1, [5, -5, 5, -5]), [0])

    def test_a_lag_outside_does_not_count_as_the_greatest(self):
        # Lag 3 is 50, lag 5 is 400: with lag 5 out of reach, lag 3 is the greatest.
        self.assertEqual(self.call(pitch, 1, 3, three(10, 5, 80)), [3])
        self.assertEqual(self.call(pitch, 1, 5, three(10, 5, 80)), [5])
        self.assertEqual(self.call(pitch, 4, 6, three(90, 5, 80)), [5])

    def test_the_first_of_two_as_great(self):
        self.assertEqual(self.call(pitch, 1, 6, three(4, 3, 4)), [3])

    def test_just_seven_eighths(self):
        self.assertEqual(self.call(pitch, 1, 6, three(7, 1, 8)), [3])
        self.assertEqual(self.call(pitch, 1, 6, three(7000, 1, 8000)), [3])
        self.assertEqual(self.call(pitch, 1, 6, three(28000, 32767, 32000)), [3])

    def test_just_less_than_seven_eighths(self):
        self.assertEqual(self.call(pitch, 1, 6, three(6, 1, 7)), [5])
        self.assertEqual(self.call(pitch, 1, 6, three(6999, 1, 8000)), [5])
        self.assertEqual(self.call(pitch, 1, 6, three(7000, 1, 8001)), [5])
        self.assertEqual(self.call(pitch, 1, 6, three(28000, 32767, 32001)), [5])

    def test_neighbours_as_great(self):
        # Lags 3 and 4 are as great as one another.
        x = [1, 0, 0, 1, 0, 0, 0, 1]
        self.assertEqual(self.call(pitch, 1, 5, x), [3])
        self.assertEqual(self.call(pitch, 4, 5, x), [4])
        self.assertEqual(self.call(pitch, 3, 3, x), [3])

    def test_no_such_lag(self):
        # The greatest within reach is at an end, and its neighbour outside is greater.
        self.assertEqual(self.call(pitch, 4, 5, [2, 0, 0, 2, 0, 0, 0, 1]), [0])
        self.assertEqual(self.call(pitch, 1, 3, [1, 0, 0, 2, 0, 0, 0, 2]), [0])
        self.assertEqual(self.call(pitch, 2, 4, [3] * 9), [0])

    def test_a_wave(self):
        wave = [0, 7000, 10000, 7000, 0, -7000, -10000, -7000] * 20
        self.assertEqual(self.call(pitch, 2, 60, wave), [8])
        self.assertEqual(self.call(pitch, 9, 60, wave), [16])

    def test_large_sums(self):
        x = ([-32768] * 3 + [32767] * 3) * 500
        self.assertEqual(self.call(pitch, 1, 20, x), plainly(1, 20, x))
        self.assertEqual(self.call(pitch, 2, 20, x), [6])

    def test_many_rows(self):
        chance = random.Random(14)
        for turn in range(2000):
            x = [chance.randint(-3, 3) for place in range(chance.randint(0, 14))]
            low = chance.randint(0, 8)
            high = low + chance.randint(-1, 7)
            if high >= 0:
                self.assertEqual(pitch(low, high, x), plainly(low, high, x), (low, high, x))


if __name__ == "__main__":
    unittest.main()
