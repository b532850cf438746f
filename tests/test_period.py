"""Point 23: period."""

import random
import unittest

from hearhall.music import period
from steady import SteadyCase

FAR = 4294967295


def plainly(low, high, news):
    """Sum by sum, as the words say it."""
    n = len(news)
    if not 1 <= low <= high < n:
        return [0]
    best = None
    for j in range(low, high + 1):
        total = 0
        for i in range(n - j):
            total += min(news[i], 65535) * min(news[i + j], 65535)
        if best is None or total > best[1]:
            best = (j, total)
    return [best[0]]


class Bounds(SteadyCase):
    def test_low_of_0(self):
        self.assertEqual(self.call(period, 0, 3, [1, 2, 3, 4, 5]), [0])
        self.assertEqual(self.call(period, 0, 0, [1, 2, 3, 4, 5]), [0])
        self.assertEqual(self.call(period, 1, 3, [1, 2, 3, 4, 5]), [1])

    def test_low_above_high(self):
        self.assertEqual(self.call(period, 3, 2, [1, 2, 3, 4, 5]), [0])
        self.assertEqual(self.call(period, FAR, 1, [1, 2, 3, 4, 5]), [0])
        self.assertEqual(self.call(period, 3, 3, [1, 2, 3, 4, 5]), [3])

    def test_high_at_its_end(self):
        # n is 5: high may be 4, and not 5.
        self.assertEqual(self.call(period, 1, 4, [9, 0, 0, 0, 9]), [4])
        self.assertEqual(self.call(period, 1, 5, [9, 0, 0, 0, 9]), [0])
        self.assertEqual(self.call(period, 4, 4, [9, 0, 0, 0, 9]), [4])
        self.assertEqual(self.call(period, 5, 5, [9, 0, 0, 0, 9]), [0])
        self.assertEqual(self.call(period, 1, FAR, [9, 0, 0, 0, 9]), [0])
        self.assertEqual(self.call(period, FAR, FAR, [9, 0, 0, 0, 9]), [0])

    def test_short_rows(self):
        self.assertEqual(self.call(period, 1, 1, []), [0])
        self.assertEqual(self.call(period, 0, 0, []), [0])
        self.assertEqual(self.call(period, 1, 1, [5]), [0])
        self.assertEqual(self.call(period, 1, 1, [5, 5]), [1])


class Sums(SteadyCase):
    def test_an_ordinary_row(self):
        self.assertEqual(self.call(period, 1, 8, [9, 0, 1, 9, 0, 0, 9, 1, 0, 9]), [3])
        self.assertEqual(self.call(period, 4, 8, [9, 0, 1, 9, 0, 0, 9, 1, 0, 9]), [6])

    def test_sums_as_great_as_one_another(self):
        # Lags 2 and 3 bring 1 each, then 5 does.
        self.assertEqual(self.call(period, 1, 5, [1, 0, 1, 0, 0, 1]), [2])
        self.assertEqual(self.call(period, 3, 5, [1, 0, 1, 0, 0, 1]), [3])
        self.assertEqual(self.call(period, 4, 5, [1, 0, 1, 0, 0, 1]), [5])

    def test_sums_that_are_all_0(self):
        self.assertEqual(self.call(period, 1, 4, [0] * 6), [1])
        self.assertEqual(self.call(period, 3, 5, [0] * 6), [3])
        self.assertEqual(self.call(period, 2, 4, [7, 0, 0, 0, 0]), [2])

    def test_above_65535_counts_as_that(self):
        # Lag 1 brings 65535 by 2 at most, lag 3 brings 3 by 65535.
        self.assertEqual(self.call(period, 1, 3, [65535, 2, 0, 3]), [3])
        self.assertEqual(self.call(period, 1, 3, [3, 0, 2, FAR]), [3])
        # Lag 1 brings 65535 by 65535, lag 2 as much: without the cut lag 2 would bring more.
        news = [65535, 65535, 0, 0, 0, 0, 65536, 0, 65536]
        self.assertEqual(self.call(period, 1, 2, news), [1])
        news = [65535, 65535, 0, 0, 0, 0, FAR, 0, FAR]
        self.assertEqual(self.call(period, 1, 2, news), [1])
        # Just below the cut it is less.
        news = [65535, 65534, 0, 0, 0, 0, 65535, 0, 65535]
        self.assertEqual(self.call(period, 1, 2, news), [2])

    def test_large_sums(self):
        news = [FAR, 0] * 2000
        self.assertEqual(self.call(period, 1, 5, news), [2])

    def test_many_rows(self):
        chance = random.Random(23)
        for turn in range(1500):
            greatest = chance.choice((1, 5, 70000, FAR))
            news = [chance.randint(0, greatest) for place in range(chance.randint(0, 12))]
            low = chance.randint(0, 6)
            high = low + chance.randint(0, 7)
            self.assertEqual(period(low, high, news), plainly(low, high, news), (low, high, news))

    def test_as_many_as_may_be(self):
        self.assertEqual(self.call(period, 2, 20, [5, 0, 0, 0, 0, 0, 0] * 4285), [7])
        self.assertEqual(self.call(period, 29990, 29999, [1] * 30000), [29990])
        self.assertEqual(self.call(period, 29990, 30000, [1] * 30000), [0])


if __name__ == "__main__":
    unittest.main()
