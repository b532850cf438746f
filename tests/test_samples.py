"""Point 1: samples."""

import unittest

from hearhall.music import samples
from steady import SteadyCase

FAR = 2147483647


def octets(number, size):
    """The bytes of a number with sign, the lowest first."""
    return list(number.to_bytes(size, "little", signed=True))


def octets_of(numbers, size):
    return [octet for number in numbers for octet in octets(number, size)]


class OneSide(SteadyCase):
    def test_kind_0(self):
        given = [0, 1, 127, 128, 129, 255]
        told = [0, -32768, -32512, -256, 0, 256, 32512]
        self.assertEqual(self.call(samples, 0, 1, 6, given), told)

    def test_kind_1_lowest_byte_first(self):
        given = [0x34, 0x12, 0xFF, 0x7F, 0x00, 0x80, 0xFF, 0xFF, 0, 0, 1, 0, 0x80, 0x00]
        told = [0, 0x1234, 32767, -32768, -1, 0, 1, 128]
        self.assertEqual(self.call(samples, 1, 1, 7, given), told)

    def test_kind_4_highest_byte_first(self):
        given = [0x12, 0x34, 0x7F, 0xFF, 0x80, 0x00, 0xFF, 0xFF, 0, 0, 0, 1, 0x00, 0x80]
        told = [0, 0x1234, 32767, -32768, -1, 0, 1, 128]
        self.assertEqual(self.call(samples, 4, 1, 7, given), told)

    def test_kind_2_lowest_byte_first(self):
        given = [0x00, 0x34, 0x12, 0x80, 0x34, 0x12, 0x7F, 0x34, 0x12, 0x00, 0x00, 0xFF]
        self.assertEqual(self.call(samples, 2, 1, 4, given), [0, 0x1234, 0x1235, 0x1234, -256])

    def test_kind_2_is_rounded_down_after_half_is_added(self):
        numbers = [0, 127, 128, 383, 384, -1, -128, -129, -384, -385]
        told = [0, 0, 0, 1, 1, 2, 0, 0, -1, -1, -2]
        self.assertEqual(self.call(samples, 2, 1, 10, octets_of(numbers, 3)), told)

    def test_kind_2_at_its_ends(self):
        numbers = [8388607, 8388479, 8388480, 8388351, -8388608, -8388480, -8388481]
        told = [0, 32767, 32767, 32767, 32767, -32768, -32767, -32768]
        self.assertEqual(self.call(samples, 2, 1, 7, octets_of(numbers, 3)), told)
        self.assertEqual(self.call(samples, 2, 1, 1, octets(8388223, 3)), [0, 32766])

    def test_kind_3_lowest_byte_first(self):
        given = [0x00, 0x00, 0x34, 0x12, 0x00, 0x80, 0x34, 0x12, 0xFF, 0x7F, 0x34, 0x12]
        self.assertEqual(self.call(samples, 3, 1, 3, given), [0, 0x1234, 0x1235, 0x1234])

    def test_kind_3_is_rounded_down_after_half_is_added(self):
        numbers = [0, 32767, 32768, 98303, 98304, -1, -32768, -32769, -98304, -98305]
        told = [0, 0, 0, 1, 1, 2, 0, 0, -1, -1, -2]
        self.assertEqual(self.call(samples, 3, 1, 10, octets_of(numbers, 4)), told)

    def test_kind_3_at_its_ends(self):
        numbers = [2147483647, 2147450880, 2147450879, -2147483648, -2147450880, -2147450881]
        told = [0, 32767, 32767, 32767, -32768, -32767, -32768]
        self.assertEqual(self.call(samples, 3, 1, 6, octets_of(numbers, 4)), told)
        self.assertEqual(self.call(samples, 3, 1, 1, octets(2147385343, 4)), [0, 32766])


class TwoSides(SteadyCase):
    def test_kind_0(self):
        given = [0, 255, 255, 255, 0, 0, 128, 129, 127, 128]
        self.assertEqual(self.call(samples, 0, 2, 5, given), [0, -128, 32512, -32768, 128, -128])

    def test_halves_are_rounded_down(self):
        pairs = [3, 4, -3, -4, 0, -1, -1, 0, 1, 0, -1, -1, 5, -6]
        told = [0, 3, -4, -1, -1, 0, -1, -1]
        self.assertEqual(self.call(samples, 1, 2, 7, octets_of(pairs, 2)), told)

    def test_kind_1_at_its_ends(self):
        pairs = [32767, 32767, -32768, -32768, -32768, 32767, 32767, 32766, -32768, -32767]
        told = [0, 32767, -32768, -1, 32766, -32768]
        self.assertEqual(self.call(samples, 1, 2, 5, octets_of(pairs, 2)), told)

    def test_kind_4(self):
        given = [0x01, 0x00, 0x00, 0x03, 0xFF, 0xFF, 0x00, 0x00, 0x80, 0x00, 0x80, 0x00]
        self.assertEqual(self.call(samples, 4, 2, 3, given), [0, 129, -1, -32768])

    def test_kind_2_halves_what_is_already_rounded(self):
        # 256 and 512 become 1 and 2, whose half is 1; 384, the half of the two as they came, would become 2.
        pairs = [128, 0, 384, 128, 127, 127, -129, 0, 256, 512]
        self.assertEqual(self.call(samples, 2, 2, 5, octets_of(pairs, 3)), [0, 0, 1, 0, -1, 1])

    def test_kind_2_halves_what_is_already_held(self):
        # 8388607 becomes 32768, held 32767, before the half is taken: with -32766 that's 0, and 1 if not held.
        pairs = [8388607, -8388096, 8388607, 8388607, 8388607, 8388096, -8388608, -8388608]
        told = [0, 0, 32767, 32766, -32768]
        self.assertEqual(self.call(samples, 2, 2, 4, octets_of(pairs, 3)), told)

    def test_kind_3(self):
        pairs = [2147483647, 2147483647, -2147483648, -2147483648, 32768, 0, -32769, 0,
                 2147483647, 32766 * 65536, 65536, 131072]
        told = [0, 32767, -32768, 0, -1, 32766, 1]
        self.assertEqual(self.call(samples, 3, 2, 6, octets_of(pairs, 4)), told)


class Edges(SteadyCase):
    def test_no_samples(self):
        for kind in range(5):
            for sides in (1, 2):
                self.assertEqual(self.call(samples, kind, sides, 0, []), [0])

    def test_an_unknown_kind_refuses_alone(self):
        for kind in (-FAR - 1, -65536, -5, -1, 5, 6, 256, FAR):
            for sides in (1, 2):
                for n in (0, 1, 65536):
                    self.assertEqual(self.call(samples, kind, sides, n, []), [-2])

    def test_an_unknown_number_of_sides_refuses_alone(self):
        for sides in (-FAR - 1, -2, -1, 0, 3, 4, FAR):
            for kind in range(5):
                for n in (0, 1, 65536):
                    self.assertEqual(self.call(samples, kind, sides, n, []), [-2])

    def test_both_unknown_refuses_alone(self):
        self.assertEqual(self.call(samples, -1, 0, 7, []), [-2])
        self.assertEqual(self.call(samples, FAR, -FAR - 1, 7, []), [-2])

    def test_as_many_as_may_be(self):
        told = self.call(samples, 0, 1, 65536, [i % 256 for i in range(65536)])
        self.same(told, [0] + [256 * (i % 256) - 32768 for i in range(65536)], "of one side")
        told = self.call(samples, 3, 2, 12500, octets_of([65536 * 5, 65536 * 8], 4) * 12500)
        self.same(told, [0] + [6] * 12500, "of two sides")

    def test_every_number_of_two_bytes(self):
        numbers = list(range(-32768, 32768))
        for part in (numbers[:32768], numbers[32768:]):
            told = self.call(samples, 1, 1, 32768, octets_of(part, 2))
            self.same(told, [0] + part, "each number")


if __name__ == "__main__":
    unittest.main()
