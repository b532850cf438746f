"""Point 9: counts."""

import unittest

from hearhall.music import counts
from steady import SteadyCase


def told(often):
    """The answer with these bytes as often as they are said to come, and no other."""
    return [0] + [often.get(octet, 0) for octet in range(256)]


class Counts(SteadyCase):
    def test_an_empty_row(self):
        self.assertEqual(self.call(counts, []), [0] * 257)

    def test_each_byte_has_its_place(self):
        for octet in range(256):
            self.assertEqual(self.call(counts, [octet]), told({octet: 1}))

    def test_each_byte_once(self):
        self.assertEqual(self.call(counts, list(range(256))), [0] + [1] * 256)
        self.assertEqual(self.call(counts, list(range(255, -1, -1))), [0] + [1] * 256)

    def test_some_bytes(self):
        self.assertEqual(self.call(counts, [3, 0, 3, 255, 3, 255]), told({0: 1, 3: 3, 255: 2}))

    def test_a_byte_that_comes_often(self):
        # Neither 8 nor 16 bits hold these.
        for many in (255, 256, 257, 65535, 65536):
            self.assertEqual(self.call(counts, [7] * many), told({7: many}))
        self.assertEqual(self.call(counts, [0, 255] * 32768), told({0: 32768, 255: 32768}))


if __name__ == "__main__":
    unittest.main()
