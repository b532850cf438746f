"""Point 7: signs."""

import unittest

from hearhall.music import signs
from steady import SteadyCase


class Signs(SteadyCase):
    def test_no_number(self):
        self.assertEqual(self.call(signs, []), [0])

    def test_one_number(self):
        self.assertEqual(self.call(signs, [-1]), [0, 1])
        self.assertEqual(self.call(signs, [-32768]), [0, 1])
        self.assertEqual(self.call(signs, [1]), [0, 0])
        self.assertEqual(self.call(signs, [32767]), [0, 0])

    def test_0_is_not_below_0(self):
        self.assertEqual(self.call(signs, [0]), [0, 0])
        self.assertEqual(self.call(signs, [0, -1, 0, -1]), [0, 10])
        self.assertEqual(self.call(signs, [0] * 9), [0, 0, 0])

    def test_each_place_has_its_bit(self):
        for place in range(24):
            x = [5] * 24
            x[place] = -5
            told = [0, 0, 0, 0]
            told[1 + place // 8] = 1 << place % 8
            self.assertEqual(self.call(signs, x), told)

    def test_seven_numbers(self):
        self.assertEqual(self.call(signs, [-1] * 7), [0, 127])
        self.assertEqual(self.call(signs, [1] * 6 + [-1]), [0, 64])

    def test_eight_numbers(self):
        self.assertEqual(self.call(signs, [-1] * 8), [0, 255])
        self.assertEqual(self.call(signs, [1] * 7 + [-1]), [0, 128])
        self.assertEqual(self.call(signs, [-1] + [1] * 7), [0, 1])

    def test_nine_numbers(self):
        self.assertEqual(self.call(signs, [-1] * 9), [0, 255, 1])
        self.assertEqual(self.call(signs, [1] * 8 + [-1]), [0, 0, 1])
        self.assertEqual(self.call(signs, [-1] * 8 + [1]), [0, 255, 0])

    def test_bits_beyond_the_row_are_0(self):
        for n in range(1, 40):
            answer = self.call(signs, [-1] * n)
            self.assertEqual(len(answer), 1 + (n + 7) // 8)
            word = sum(octet << 8 * i for i, octet in enumerate(answer[1:]))
            self.assertEqual(word, (1 << n) - 1)

    def test_every_byte(self):
        for octet in range(256):
            x = [-1 - i if octet >> i & 1 else i for i in range(8)]
            self.assertEqual(self.call(signs, x), [0, octet])

    def test_as_many_as_may_be(self):
        self.same(self.call(signs, [-32768, 0, 1, -1] * 15000), [0] + [153] * 7500, "a long row")
        self.same(self.call(signs, [-1] * 59999), [0] + [255] * 7499 + [127], "one less")


if __name__ == "__main__":
    unittest.main()
