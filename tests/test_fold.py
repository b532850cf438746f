"""Point 25: fold."""

import unittest

from hearhall.music import fold
from steady import SteadyCase

FAR = 4294967295


def plainly(bands, first, louds):
    """Note by note, as the words say it."""
    return [0] + [sum(loud for i, loud in enumerate(louds) if (first + i % bands) % 12 == note) for note in range(12)]


class Fold(SteadyCase):
    def test_bands_of_0_and_too_many(self):
        for bands in (0, 65, 66, 256, 65536):
            self.assertEqual(self.call(fold, bands, 0, [1, 2, 3]), [-2])
            self.assertEqual(self.call(fold, bands, 0, []), [-2])

    def test_an_empty_row(self):
        for bands in (1, 12, 64):
            for first in (0, 5, FAR):
                self.assertEqual(self.call(fold, bands, first, []), [0] * 13)

    def test_one_band(self):
        self.assertEqual(self.call(fold, 1, 0, [1, 2, 3]), [0, 6] + [0] * 11)
        self.assertEqual(self.call(fold, 1, 11, [1, 2, 3]), [0] * 12 + [6])
        self.assertEqual(self.call(fold, 1, 12, [1, 2, 3]), [0, 6] + [0] * 11)

    def test_twelve_bands(self):
        self.assertEqual(self.call(fold, 12, 0, list(range(1, 13))), [0] + list(range(1, 13)))
        self.assertEqual(self.call(fold, 12, 1, list(range(1, 13))), [0, 12] + list(range(1, 12)))

    def test_64_bands(self):
        self.assertEqual(self.call(fold, 64, 0, [1] * 64), [0] + [6] * 4 + [5] * 8)
        # The 64-th is in the second frame, so it's at first again.
        self.assertEqual(self.call(fold, 64, 0, [0] * 64 + [9]), [0, 9] + [0] * 11)
        self.assertEqual(self.call(fold, 63, 0, [0] * 63 + [9]), [0, 9] + [0] * 11)
        self.assertEqual(self.call(fold, 64, 0, [0] * 63 + [9]), [0, 0, 0, 0, 9] + [0] * 8)

    def test_frames_begin_at_first_again(self):
        self.assertEqual(self.call(fold, 3, 0, [1, 2, 3, 10, 20, 30]), [0, 11, 22, 33] + [0] * 9)
        self.assertEqual(self.call(fold, 5, 10, [1, 2, 3, 4, 5] * 2), [0, 6, 8, 10] + [0] * 7 + [2, 4])

    def test_no_whole_number_of_frames(self):
        self.assertEqual(self.call(fold, 3, 0, [1, 2, 3, 10]), [0, 11, 2, 3] + [0] * 9)
        self.assertEqual(self.call(fold, 3, 0, [1, 2, 3, 10, 20]), [0, 11, 22, 3] + [0] * 9)
        self.assertEqual(self.call(fold, 64, 0, [1, 2]), [0, 1, 2] + [0] * 10)

    def test_first_is_not_cut(self):
        # 4294967295 is 3 modulo 12; with one more, cut to 32 bits, it would be 0 and not 4.
        self.assertEqual(self.call(fold, 3, FAR, [7, 8, 9]), [0, 0, 0, 0, 7, 8, 9] + [0] * 6)
        for first in (FAR - 1, FAR - 30, 2147483647, 2147483648):
            louds = list(range(64))
            self.assertEqual(self.call(fold, 64, first, louds), plainly(64, first, louds))

    def test_every_first(self):
        for first in range(30):
            for bands in (1, 2, 11, 12, 13, 64):
                louds = [i * 7 % 256 for i in range(100)]
                self.assertEqual(self.call(fold, bands, first, louds), plainly(bands, first, louds))

    def test_as_many_as_may_be(self):
        self.assertEqual(self.call(fold, 1, 0, [255] * 65536), [0, 255 * 65536] + [0] * 11)
        louds = [i * i % 256 for i in range(65536)]
        self.assertEqual(self.call(fold, 64, FAR, louds), plainly(64, FAR, louds))


if __name__ == "__main__":
    unittest.main()
