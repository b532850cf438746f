"""Point 5: middle."""

import unittest

from hearhall.music import middle
from steady import SteadyCase

LEAST = -32768
MOST = 32767


def plainly(x):
    """Place by place, as the words say it."""
    answer = [0]
    for i in range(len(x)):
        five = [x[min(max(place, 0), len(x) - 1)] for place in range(i - 2, i + 3)]
        answer.append(sorted(five)[2])
    return answer


class Middle(SteadyCase):
    def test_no_number(self):
        self.assertEqual(self.call(middle, []), [0])

    def test_one_number(self):
        for number in (LEAST, -1, 0, 1, MOST):
            self.assertEqual(self.call(middle, [number]), [0, number])

    def test_two_numbers(self):
        # Each end stands three times among its five.
        self.assertEqual(self.call(middle, [1, 9]), [0, 1, 9])
        self.assertEqual(self.call(middle, [9, 1]), [0, 9, 1])
        self.assertEqual(self.call(middle, [LEAST, MOST]), [0, LEAST, MOST])

    def test_three_numbers(self):
        self.assertEqual(self.call(middle, [5, 1, 9]), [0, 5, 5, 9])
        self.assertEqual(self.call(middle, [1, 5, 9]), [0, 1, 5, 9])
        self.assertEqual(self.call(middle, [1, 9, 1]), [0, 1, 1, 1])

    def test_five_numbers(self):
        self.assertEqual(self.call(middle, [5, 3, 1, 4, 2]), [0, 5, 4, 3, 2, 2])

    def test_beyond_an_end_that_end_stands_not_0(self):
        self.assertEqual(self.call(middle, [7, 8, 9, 10, 11, 12]), [0, 7, 8, 9, 10, 11, 12])
        self.assertEqual(self.call(middle, [-7, -8, -9, -10]), [0, -7, -8, -9, -10])

    def test_beyond_an_end_the_other_end_does_not_stand(self):
        self.assertEqual(self.call(middle, [1, 1, 1, 1, 100, 100, 100]), [0, 1, 1, 1, 1, 100, 100, 100])

    def test_the_row_is_not_mirrored_at_an_end(self):
        # With 9 and 8 standing beyond the first end, the middle one of the first five would be 8.
        self.assertEqual(self.call(middle, [5, 8, 9, 9, 9, 9])[1], 5)
        self.assertEqual(self.call(middle, [9, 9, 9, 9, 8, 5])[-1], 5)

    def test_one_that_sticks_out_is_gone(self):
        self.assertEqual(self.call(middle, [1, 2, MOST, 3, 4]), [0, 1, 2, 3, 4, 4])
        self.assertEqual(self.call(middle, [0, 0, LEAST, LEAST, 0, 0]), [0] * 7)

    def test_equal_numbers_among_the_five(self):
        self.assertEqual(self.call(middle, [2, 2, 2, 2, 2, 2]), [0, 2, 2, 2, 2, 2, 2])
        self.assertEqual(self.call(middle, [9, 4, 4, 1, 9, 9]), [0, 9, 4, 4, 4, 9, 9])
        self.assertEqual(self.call(middle, [3, 3, 0, 7, 7])[3], 3)
        self.assertEqual(self.call(middle, [-5, 5, -5, 5, -5])[3], -5)

    def test_by_size_with_sign(self):
        self.assertEqual(self.call(middle, [-9, 1, -8, 2, 3])[3], 1)

    def test_every_row_of_a_few_numbers(self):
        for length in range(7):
            for code in range(3 ** length):
                x = [code // 3 ** place % 3 - 1 for place in range(length)]
                self.assertEqual(middle(x), plainly(x))

    def test_as_many_as_may_be(self):
        x = [i * 40503 % 65536 - 32768 for i in range(60000)]
        self.same(self.call(middle, x), plainly(x), "a long row")


if __name__ == "__main__":
    unittest.main()
