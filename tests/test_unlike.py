"""Point 8: unlike."""

import unittest

from hearhall.music import unlike
from steady import SteadyCase

FULL = 4294967295


class Unlike(SteadyCase):
    def test_empty_rows(self):
        self.assertEqual(self.call(unlike, [], []), [0])

    def test_words_that_are_alike(self):
        for word in (0, 1, 2863311530, 2147483648, FULL):
            self.assertEqual(self.call(unlike, [word], [word]), [0])

    def test_all_bits(self):
        self.assertEqual(self.call(unlike, [0], [FULL]), [32])
        self.assertEqual(self.call(unlike, [FULL], [0]), [32])
        self.assertEqual(self.call(unlike, [2863311530], [1431655765]), [32])

    def test_each_bit_counts_once(self):
        for bit in range(32):
            self.assertEqual(self.call(unlike, [0], [1 << bit]), [1])
            self.assertEqual(self.call(unlike, [FULL], [FULL - (1 << bit)]), [1])

    def test_bits_in_a_row(self):
        for many in range(33):
            word = (1 << many) - 1
            self.assertEqual(self.call(unlike, [word], [0]), [many])
            self.assertEqual(self.call(unlike, [word], [FULL]), [32 - many])

    def test_it_is_bits_and_not_how_far_apart(self):
        self.assertEqual(self.call(unlike, [7], [8]), [4])
        self.assertEqual(self.call(unlike, [2147483648], [2147483647]), [32])
        self.assertEqual(self.call(unlike, [5], [6]), [2])

    def test_words_as_they_come(self):
        word = 1
        for turn in range(2000):
            other = (word * 1664525 + 1013904223) % 4294967296
            self.assertEqual(unlike([word], [other]), [bin(word ^ other).count("1")])
            word = other

    def test_sums_over_several_words(self):
        self.assertEqual(self.call(unlike, [1, 2, 3], [0, 0, 0]), [4])
        self.assertEqual(self.call(unlike, [0, FULL, 0], [FULL, FULL, 1]), [33])
        self.assertEqual(self.call(unlike, [0] * 9, [FULL] * 9), [288])

    def test_word_by_word(self):
        self.assertEqual(self.call(unlike, [1, 2], [2, 1]), [4])

    def test_one_row_as_both(self):
        both = [0, 1, FULL]
        self.assertEqual(self.call(unlike, both, both), [0])

    def test_as_many_as_may_be(self):
        self.assertEqual(self.call(unlike, [0] * 30000, [FULL] * 30000), [960000])
        self.assertEqual(self.call(unlike, [FULL] * 30000, [FULL] * 29999 + [0]), [32])


if __name__ == "__main__":
    unittest.main()
