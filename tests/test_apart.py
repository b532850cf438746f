"""Point 13: apart."""

import unittest

from hearhall.music import apart
from steady import SteadyCase


def plainly(k, x):
    """Pair by pair, as the words say it."""
    answer = [0]
    for j in range(k):
        total = 0
        for i in range(len(x)):
            if i + j < len(x):
                total += max(x[i], x[i + j]) - min(x[i], x[i + j])
        answer.append(total)
    return answer


class Apart(SteadyCase):
    def test_k_of_0(self):
        self.assertEqual(self.call(apart, 0, []), [0])
        self.assertEqual(self.call(apart, 0, [1, 2, 3]), [0])

    def test_k_below_n(self):
        self.assertEqual(self.call(apart, 1, [1, 5, 3]), [0, 0])
        self.assertEqual(self.call(apart, 2, [1, 5, 3]), [0, 0, 6])

    def test_k_just_n(self):
        self.assertEqual(self.call(apart, 3, [1, 5, 3]), [0, 0, 6, 2])
        self.assertEqual(self.call(apart, 1, [255]), [0, 0])

    def test_k_above_n(self):
        self.assertEqual(self.call(apart, 4, [1, 5, 3]), [0, 0, 6, 2, 0])
        self.assertEqual(self.call(apart, 6, [0, 255]), [0, 0, 255, 0, 0, 0, 0])
        self.same(self.call(apart, 65536, [0, 255, 0]), [0, 0, 510] + [0] * 65534, "far above")

    def test_an_empty_row(self):
        self.assertEqual(self.call(apart, 1, []), [0, 0])
        self.same(self.call(apart, 65536, []), [0] * 65537, "far above")

    def test_it_is_how_far_apart_with_no_sign(self):
        self.assertEqual(self.call(apart, 2, [9, 4]), [0, 0, 5])
        self.assertEqual(self.call(apart, 2, [4, 9]), [0, 0, 5])
        self.assertEqual(self.call(apart, 3, [0, 255, 0]), [0, 0, 510, 0])

    def test_it_does_not_go_round(self):
        self.assertEqual(self.call(apart, 3, [0, 0, 7]), [0, 0, 7, 7])

    def test_many_k(self):
        x = [i * 7919 % 256 for i in range(60)]
        for n in (1, 2, 3, 20, 60):
            for k in (1, 2, 3, 19, 20, 21, 60, 61, 100):
                self.assertEqual(self.call(apart, k, x[:n]), plainly(k, x[:n]))

    def test_as_many_numbers_as_may_be(self):
        told = [0] + [(65536 - j) * 255 * (j % 2) for j in range(20)]
        self.assertEqual(self.call(apart, 20, [0, 255] * 32768), told)


if __name__ == "__main__":
    unittest.main()
