"""Point 2: row."""

import unittest

from hearhall.music import row
from steady import SteadyCase

FAR = 2147483647
LEAST = -32768
MOST = 32767


class Ops(SteadyCase):
    def check(self, op, triples):
        """Each triple is a's number, b's number and what is asked of them."""
        a = [triple[0] for triple in triples]
        b = [triple[1] for triple in triples]
        told = [triple[2] for triple in triples]
        self.assertEqual(self.call(row, op, a, b), [0] + told)

    def test_0_adds(self):
        self.check(0, [
            (1, 2, 3), (-5, 3, -2), (0, 0, 0),
            (MOST, 0, MOST), (MOST, 1, MOST), (MOST, MOST, MOST), (32766, 1, MOST), (32766, 2, MOST),
            (LEAST, 0, LEAST), (LEAST, -1, LEAST), (LEAST, LEAST, LEAST), (-32767, -1, LEAST),
            (LEAST, MOST, -1)])

    def test_1_takes_away(self):
        self.check(1, [
            (1, 2, -1), (2, 1, 1), (-5, -3, -2), (7, 7, 0),
            (MOST, -1, MOST), (MOST, LEAST, MOST), (0, LEAST, MOST), (-1, LEAST, MOST), (-2, LEAST, 32766),
            (LEAST, 1, LEAST), (LEAST, MOST, LEAST), (-1, MOST, LEAST), (LEAST, LEAST, 0)])

    def test_2_multiplies(self):
        self.check(2, [
            (16384, 16384, 8192), (MOST, MOST, 32766), (0, LEAST, 0),
            (LEAST, LEAST, MOST), (LEAST, -32767, MOST), (LEAST, -32766, 32766),
            (LEAST, MOST, -32767), (MOST, LEAST, -32767), (LEAST, 1, -1), (LEAST, -1, 1)])

    def test_2_is_rounded_down_after_half_is_added(self):
        self.check(2, [
            (16384, 1, 1), (16383, 1, 0), (-16384, 1, 0), (-16385, 1, -1), (-16383, 1, 0), (-1, 1, 0),
            (-16384, 3, -1), (-16385, 3, -2), (16384, 3, 2)])

    def test_3_is_the_middle(self):
        self.check(3, [
            (1, 2, 2), (1, 3, 2), (-1, 0, 0), (-1, -2, -1), (-2, -3, -2), (-3, 0, -1), (-1, -1, -1),
            (MOST, MOST, MOST), (LEAST, LEAST, LEAST), (LEAST, MOST, 0), (LEAST, -32767, -32767)])

    def test_4_is_the_greater(self):
        self.check(4, [(1, 2, 2), (2, 1, 2), (-1, -2, -1), (-2, 1, 1), (5, 5, 5), (LEAST, MOST, MOST)])

    def test_5_is_the_less(self):
        self.check(5, [(1, 2, 1), (2, 1, 1), (-1, -2, -2), (-2, 1, -2), (5, 5, 5), (LEAST, MOST, LEAST)])

    def test_6_is_how_far_they_are_apart(self):
        self.check(6, [
            (1, 4, 3), (4, 1, 3), (-1, -4, 3), (-4, 1, 5), (9, 9, 0),
            (MOST, 0, MOST), (MOST, -1, MOST), (LEAST, 0, MOST), (LEAST, -1, MOST), (LEAST, -2, 32766),
            (LEAST, MOST, MOST), (MOST, LEAST, MOST), (LEAST, LEAST, 0)])

    def test_7_takes_the_sign(self):
        self.check(7, [
            (5, -1, -5), (5, 0, 0), (5, 1, 5), (-5, LEAST, 5), (-5, 0, 0), (-5, MOST, -5), (0, -1, 0),
            (LEAST, -1, MOST), (LEAST, 0, 0), (LEAST, 1, LEAST), (MOST, -1, -32767), (-32767, -1, MOST)])


class Edges(SteadyCase):
    def test_empty_rows(self):
        for op in range(8):
            self.assertEqual(self.call(row, op, [], []), [0])

    def test_an_unknown_op_refuses_alone(self):
        for op in (-FAR - 1, -65536, -8, -7, -2, -1, 8, 9, 15, 256, FAR):
            self.assertEqual(self.call(row, op, [], []), [-2])
            self.assertEqual(self.call(row, op, [1, 2], [3, 4]), [-2])

    def test_one_row_as_both(self):
        both = [LEAST, -1, 0, 1, MOST]
        self.assertEqual(self.call(row, 0, both, both), [0, LEAST, -2, 0, 2, MOST])

    def test_as_many_as_may_be(self):
        a = [i % 65536 - 32768 for i in range(60000)]
        b = [i * 7 % 65536 - 32768 for i in range(60000)]
        for op in range(8):
            answer = self.call(row, op, a, b)
            self.assertEqual(len(answer), 60001)
            self.assertEqual(answer[0], 0)
            self.assertTrue(all(LEAST <= number <= MOST for number in answer))


if __name__ == "__main__":
    unittest.main()
