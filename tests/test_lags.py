"""Point 12: lags."""

import unittest

from hearhall.music import lags
from steady import SteadyCase

LEAST = -32768
MOST = 32767


def plainly(k, x):
    """Pair by pair, as the words say it."""
    answer = [0]
    for j in range(k):
        total = 0
        for i in range(len(x)):
            if i + j < len(x):
                total += x[i] * x[i + j]
        answer.append(total)
    return answer


class Lags(SteadyCase):
    def test_k_of_0(self):
        self.assertEqual(self.call(lags, 0, []), [0])
        self.assertEqual(self.call(lags, 0, [1, 2, 3]), [0])

    def test_k_below_n(self):
        self.assertEqual(self.call(lags, 1, [1, 2, 3]), [0, 14])
        self.assertEqual(self.call(lags, 2, [1, 2, 3]), [0, 14, 8])

    def test_k_just_n(self):
        self.assertEqual(self.call(lags, 3, [1, 2, 3]), [0, 14, 8, 3])
        self.assertEqual(self.call(lags, 1, [-4]), [0, 16])

    def test_k_above_n(self):
        self.assertEqual(self.call(lags, 4, [1, 2, 3]), [0, 14, 8, 3, 0])
        self.assertEqual(self.call(lags, 7, [1, 2, 3]), [0, 14, 8, 3, 0, 0, 0, 0])
        self.same(self.call(lags, 65536, [1, 2, 3]), [0, 14, 8, 3] + [0] * 65533, "far above")

    def test_an_empty_row(self):
        self.assertEqual(self.call(lags, 1, []), [0, 0])
        self.assertEqual(self.call(lags, 5, []), [0] * 6)
        self.same(self.call(lags, 65536, []), [0] * 65537, "far above")

    def test_it_does_not_go_round(self):
        self.assertEqual(self.call(lags, 3, [1, 0, 5]), [0, 26, 0, 5])

    def test_sums_below_0(self):
        self.assertEqual(self.call(lags, 3, [1, -1, 1]), [0, 3, -2, 1])
        self.assertEqual(self.call(lags, 2, [2, -1]), [0, 5, -2])
        self.assertEqual(self.call(lags, 2, [MOST, LEAST]), [0, MOST * MOST + LEAST * LEAST, MOST * LEAST])

    def test_sums_above_32_bits(self):
        self.assertEqual(self.call(lags, 2, [LEAST] * 5), [0, 5368709120, 4294967296])
        x = [LEAST, MOST] * 4
        self.assertEqual(self.call(lags, 8, x), plainly(8, x))
        self.assertEqual(self.call(lags, 2, x)[2], -7515963392)

    def test_many_k(self):
        x = [i * 7919 % 65536 - 32768 for i in range(60)]
        for n in (1, 2, 3, 20, 60):
            for k in (1, 2, 3, 19, 20, 21, 60, 61, 100):
                self.assertEqual(self.call(lags, k, x[:n]), plainly(k, x[:n]))

    def test_as_many_numbers_as_may_be(self):
        told = [0] + [(60000 - j) * 1073741824 for j in range(20)]
        self.assertEqual(self.call(lags, 20, [LEAST] * 60000), told)


if __name__ == "__main__":
    unittest.main()
