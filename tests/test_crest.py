"""Point 6: crest."""

import unittest

from hearhall.music import crest
from steady import SteadyCase

LEAST = -32768
MOST = 32767


def plainly(w, x):
    """Place by place, as the words say it."""
    answer = [0]
    for i in range(len(x) + 1 - w):
        greatest = x[i]
        for place in range(i, i + w):
            if x[place] > greatest:
                greatest = x[place]
        answer.append(greatest)
    return answer


class Answers(SteadyCase):
    def test_an_ordinary_row(self):
        self.assertEqual(self.call(crest, 3, [1, 5, 2, 4, 3, 0]), [0, 5, 5, 4, 4])
        self.assertEqual(self.call(crest, 2, [1, 5, 2, 4, 3, 0]), [0, 5, 5, 4, 4, 3])

    def test_w_of_1_is_the_row(self):
        self.assertEqual(self.call(crest, 1, [3, -1, 2]), [0, 3, -1, 2])
        self.assertEqual(self.call(crest, 1, [LEAST]), [0, LEAST])

    def test_w_just_n(self):
        self.assertEqual(self.call(crest, 4, [1, 7, 2, 6]), [0, 7])
        self.assertEqual(self.call(crest, 2, [-1, -7]), [0, -1])
        self.assertEqual(self.call(crest, 256, list(range(256))), [0, 255])

    def test_w_of_256(self):
        x = [MOST] + [0] * 255 + [5, 1]
        self.assertEqual(self.call(crest, 256, x), [0, MOST, 5, 5])
        x = list(range(300, 0, -1))
        self.assertEqual(self.call(crest, 256, x), [0] + list(range(300, 255, -1)))

    def test_numbers_below_0_alone(self):
        self.assertEqual(self.call(crest, 2, [-5, -3, -4, -9, LEAST]), [0, -3, -3, -4, -9])
        self.assertEqual(self.call(crest, 3, [LEAST, LEAST, LEAST, LEAST]), [0, LEAST, LEAST])

    def test_the_greatest_comes_in_and_goes_in_time(self):
        self.assertEqual(self.call(crest, 3, [0, 0, 0, 9, 0, 0, 0]), [0, 0, 9, 9, 9, 0])

    def test_at_both_ends(self):
        self.assertEqual(self.call(crest, 2, [MOST, LEAST, LEAST, MOST]), [0, MOST, LEAST, MOST])

    def test_rows_of_many_lengths(self):
        x = [i * 7919 % 101 - 50 for i in range(270)]
        for n in (1, 2, 5, 255, 256, 257, 270):
            for w in (1, 2, 3, 5, 100, 255, 256):
                if w <= n:
                    self.assertEqual(self.call(crest, w, x[:n]), plainly(w, x[:n]))

    def test_as_many_as_may_be(self):
        for x in ([i * 40503 % 65536 - 32768 for i in range(60000)],
                  list(range(30000, -30000, -1)), list(range(-30000, 30000)), [7] * 60000):
            answer = self.call(crest, 256, x)
            self.assertEqual(len(answer), 60001 - 255)
            self.assertEqual(answer[:50], plainly(256, x[:255 + 49]))
            self.assertEqual(answer[-50:], plainly(256, x[-255 - 50:])[1:])


class Refusals(SteadyCase):
    def test_w_of_0(self):
        self.assertEqual(self.call(crest, 0, []), [-2])
        self.assertEqual(self.call(crest, 0, [1, 2, 3]), [-2])

    def test_w_above_256(self):
        for w in (257, 258, 300, 512, 65536):
            self.assertEqual(self.call(crest, w, [1] * 300), [-2])
            self.assertEqual(self.call(crest, w, [1] * 60000), [-2])

    def test_w_above_n(self):
        self.assertEqual(self.call(crest, 4, [1, 2, 3]), [-2])
        self.assertEqual(self.call(crest, 2, [1]), [-2])
        self.assertEqual(self.call(crest, 256, [1] * 255), [-2])
        self.assertEqual(self.call(crest, 65536, [1]), [-2])

    def test_an_empty_row(self):
        for w in (0, 1, 2, 256, 257, 65536):
            self.assertEqual(self.call(crest, w, []), [-2])


if __name__ == "__main__":
    unittest.main()
