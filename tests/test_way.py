"""Point 22: way."""

import random
import unittest

from hearhall.music import way
from steady import SteadyCase

FAR = 4294967295


def coded(pairs):
    return [65536 * i + j for i, j in pairs]


def costs_of_ways(n, m, band, cost):
    """The least cost to each pair, found by going every way there is."""
    least = {}

    def go(i, j, total):
        if not -band * (n + m) <= i * m - j * n <= band * (n + m):
            return
        total += cost[i][j]
        least[i, j] = min(total, least.get((i, j), total))
        for p, q in ((i + 1, j), (i, j + 1), (i + 1, j + 1)):
            if p < n and q < m:
                go(p, q, total)

    go(0, 0, 0)
    return least


def plainly(n, m, w, band, a, b):
    """As the words say it, for few frames."""
    cost = [[sum(abs(a[i * w + k] - b[j * w + k]) for k in range(w)) for j in range(m)] for i in range(n)]
    least = costs_of_ways(n, m, band, cost)
    pairs = [(n - 1, m - 1)]
    while pairs[0] != (0, 0):
        i, j = pairs[0]
        before = [pair for pair in ((i - 1, j - 1), (i - 1, j), (i, j - 1)) if pair in least]
        cheapest = min(least[pair] for pair in before)
        pairs.insert(0, [pair for pair in before if least[pair] == cheapest][0])
    return [len(pairs), least[n - 1, m - 1]] + coded(pairs)


class Refusals(SteadyCase):
    def test_w(self):
        self.assertEqual(self.call(way, 2, 2, 0, 1, [], []), [-2])
        self.assertEqual(self.call(way, 1, 1, 65, 1, [0] * 65, [0] * 65), [-2])
        self.assertEqual(self.call(way, 1, 1, 65536, 1, [0] * 65536, [0] * 65536), [-2])
        self.assertEqual(self.call(way, 1, 1, 64, 1, [0] * 64, [0] * 64), [1, 0, 0])

    def test_n(self):
        self.assertEqual(self.call(way, 0, 1, 1, 1, [], [0]), [-2])
        self.assertEqual(self.call(way, 513, 1, 1, FAR, [0] * 513, [0]), [-2])
        self.assertEqual(self.call(way, 65536, 1, 1, FAR, [0] * 65536, [0]), [-2])
        self.assertEqual(self.call(way, 512, 1, 1, 1, [0] * 512, [0])[:2], [512, 0])

    def test_m(self):
        self.assertEqual(self.call(way, 1, 0, 1, 1, [0], []), [-2])
        self.assertEqual(self.call(way, 1, 513, 1, FAR, [0], [0] * 513), [-2])
        self.assertEqual(self.call(way, 1, 65536, 1, FAR, [0], [0] * 65536), [-2])
        self.assertEqual(self.call(way, 1, 512, 1, 1, [0], [0] * 512)[:2], [512, 0])

    def test_band(self):
        self.assertEqual(self.call(way, 2, 2, 1, 0, [1, 2], [1, 2]), [-2])
        self.assertEqual(self.call(way, 1, 1, 1, 0, [1], [1]), [-2])
        self.assertEqual(self.call(way, 2, 2, 1, 1, [1, 2], [1, 2]), [2, 0, 0, 65537])
        self.assertEqual(self.call(way, 2, 2, 1, FAR, [1, 2], [1, 2]), [2, 0, 0, 65537])

    def test_all_of_0(self):
        self.assertEqual(self.call(way, 0, 0, 0, 0, [], []), [-2])


class Ways(SteadyCase):
    def test_one_frame_by_one(self):
        self.assertEqual(self.call(way, 1, 1, 1, 1, [9], [4]), [1, 5, 0])
        self.assertEqual(self.call(way, 1, 1, 3, 1, [9, 0, 255], [4, 255, 255]), [1, 260, 0])

    def test_frames_have_w_bytes(self):
        # The frames of a are 1 2, 3 4 and 5 6, those of b 1 2 and 5 6.
        self.assertEqual(self.call(way, 3, 2, 2, 1, [1, 2, 3, 4, 5, 6], [1, 2, 5, 6]), [3, 4] + coded(
            [(0, 0), (1, 0), (2, 1)]))
        self.assertEqual(self.call(way, 2, 2, 3, 1, [0, 0, 0, 255, 255, 255], [0] * 6)[:2], [2, 765])

    def test_more_frames_in_a(self):
        told = [4, 0] + coded([(0, 0), (1, 0), (2, 0), (3, 1)])
        self.assertEqual(self.call(way, 4, 2, 1, 1, [5, 5, 5, 9], [5, 9]), told)
        self.assertEqual(self.call(way, 3, 1, 1, 1, [1, 2, 3], [2]), [3, 2] + coded([(0, 0), (1, 0), (2, 0)]))

    def test_more_frames_in_b(self):
        told = [4, 0] + coded([(0, 0), (1, 1), (1, 2), (1, 3)])
        self.assertEqual(self.call(way, 2, 4, 1, 1, [5, 9], [5, 9, 9, 9]), told)
        self.assertEqual(self.call(way, 1, 3, 1, 1, [2], [1, 2, 3]), [3, 2] + coded([(0, 0), (0, 1), (0, 2)]))

    def test_drawn_out_to_fit(self):
        a = [10, 20, 20, 20, 30, 40]
        b = [10, 10, 20, 30, 30, 40]
        pairs = [(0, 0), (0, 1), (1, 2), (2, 2), (3, 2), (4, 3), (4, 4), (5, 5)]
        self.assertEqual(self.call(way, 6, 6, 1, 1, a, b), [8, 0] + coded(pairs))


class AsCheap(SteadyCase):
    def test_all_alike(self):
        self.assertEqual(self.call(way, 3, 3, 1, 1, [7] * 3, [7] * 3), [3, 0] + coded([(0, 0), (1, 1), (2, 2)]))
        # Both on as long as that can be, from the end back.
        self.assertEqual(self.call(way, 3, 2, 1, 1, [7] * 3, [7] * 2), [3, 0] + coded([(0, 0), (1, 0), (2, 1)]))
        self.assertEqual(self.call(way, 2, 3, 1, 1, [7] * 2, [7] * 3), [3, 0] + coded([(0, 0), (0, 1), (1, 2)]))

    def test_both_on_before_one_on_in_a(self):
        self.assertEqual(self.call(way, 2, 2, 1, 1, [0, 0], [1, 0]), [2, 1] + coded([(0, 0), (1, 1)]))

    def test_both_on_before_one_on_in_b(self):
        self.assertEqual(self.call(way, 2, 2, 1, 1, [0, 0], [0, 1]), [2, 1] + coded([(0, 0), (1, 1)]))

    def test_one_on_in_a_before_one_on_in_b(self):
        # To (1, 1) it costs 2, to (1, 2) and to (2, 1) it costs 1.
        told = [4, 2] + coded([(0, 0), (0, 1), (1, 2), (2, 2)])
        self.assertEqual(self.call(way, 3, 3, 1, 1, [0, 1, 0], [1, 0, 1]), told)

    def test_the_cheapest_before_the_order(self):
        told = [3, 0] + coded([(0, 0), (1, 1), (1, 2)])
        self.assertEqual(self.call(way, 2, 3, 1, 1, [0, 1], [0, 1, 1]), told)
        told = [3, 0] + coded([(0, 0), (1, 1), (2, 1)])
        self.assertEqual(self.call(way, 3, 2, 1, 1, [0, 1, 1], [0, 1]), told)


class Band(SteadyCase):
    def test_a_band_of_1_keeps_the_cheapest_way_out(self):
        a = [0, 0, 0, 0, 0, 9]
        b = [0, 9, 9, 9, 9, 9]
        free = self.call(way, 6, 6, 1, 2, a, b)
        self.assertEqual(free, [10, 0] + coded([(i, 0) for i in range(5)] + [(5, j) for j in range(1, 6)]))
        kept = self.call(way, 6, 6, 1, 1, a, b)
        self.assertEqual(kept, plainly(6, 6, 1, 1, a, b))
        self.assertEqual(kept[1], 18)
        self.assertTrue(all(abs((pair >> 16) - pair % 65536) <= 2 for pair in kept[2:]))

    def test_just_at_the_band(self):
        # i m - j n is 12 at (2, 0), just n + m, and 18 at (3, 0).
        a = [0, 0, 0, 9, 9, 9]
        b = [0, 9, 9, 9, 9, 9]
        told = [6 + 2, 0] + coded([(0, 0), (1, 0), (2, 0), (3, 1), (3, 2), (3, 3), (4, 4), (5, 5)])
        self.assertEqual(self.call(way, 6, 6, 1, 1, a, b), told)
        a = [0, 0, 0, 0, 9, 9]
        self.assertEqual(self.call(way, 6, 6, 1, 1, a, b)[1], 9)
        self.assertEqual(self.call(way, 6, 6, 1, 2, a, b)[1], 0)

    def test_just_at_the_band_on_the_other_side(self):
        a = [0, 9, 9, 9, 9, 9]
        b = [0, 0, 0, 9, 9, 9]
        told = [8, 0] + coded([(0, 0), (0, 1), (0, 2), (1, 3), (2, 3), (3, 3), (4, 4), (5, 5)])
        self.assertEqual(self.call(way, 6, 6, 1, 1, a, b), told)
        b = [0, 0, 0, 0, 9, 9]
        self.assertEqual(self.call(way, 6, 6, 1, 1, a, b)[1], 9)

    def test_sides_of_unlike_length(self):
        chance = random.Random(22)
        for n, m in ((2, 7), (7, 2), (1, 9), (9, 1), (3, 6), (6, 3), (5, 6)):
            for band in (1, 2, 3):
                a = [chance.randint(0, 4) for i in range(n)]
                b = [chance.randint(0, 4) for j in range(m)]
                self.assertEqual(self.call(way, n, m, 1, band, a, b), plainly(n, m, 1, band, a, b))


class Many(SteadyCase):
    def test_many_ways(self):
        chance = random.Random(2222)
        for turn in range(400):
            n, m, w = chance.randint(1, 6), chance.randint(1, 6), chance.randint(1, 3)
            greatest = chance.choice((1, 2, 255))
            a = [chance.randint(0, greatest) for place in range(n * w)]
            b = [chance.randint(0, greatest) for place in range(m * w)]
            band = chance.choice((1, 1, 2, 10))
            given = (n, m, w, band, a, b)
            self.assertEqual(way(*given), plainly(*given), given)

    def test_one_row_as_both(self):
        both = [3, 1, 4, 1, 5]
        self.assertEqual(self.call(way, 5, 5, 1, 1, both, both), [5, 0] + coded([(i, i) for i in range(5)]))


class Large(SteadyCase):
    def test_512_frames_by_512(self):
        both = [i * 37 % 256 for i in range(512 * 64)]
        told = [512, 0] + coded([(i, i) for i in range(512)])
        self.same(self.call(way, 512, 512, 64, 1, both, list(both)), told, "alike, a band of 1")
        self.same(self.call(way, 512, 512, 64, FAR, both, list(both)), told, "alike, a band of many")

    def test_512_frames_by_512_as_far_apart_as_may_be(self):
        answer = self.call(way, 512, 512, 64, 1, [0] * 32768, [255] * 32768)
        self.same(answer, [512, 512 * 64 * 255] + coded([(i, i) for i in range(512)]), "far apart")

    def test_512_frames_by_512_with_a_detour(self):
        a = [0] * 511 + [200]
        b = [0] + [200] * 511
        pairs = [(i, 0) for i in range(511)] + [(511, j) for j in range(1, 512)]
        self.same(self.call(way, 512, 512, 1, 512, a, b), [1022, 0] + coded(pairs), "along both sides")

    def test_512_frames_by_one(self):
        a = [i % 256 for i in range(512)]
        self.same(self.call(way, 512, 1, 1, 1, a, [0]), [512, sum(a)] + coded([(i, 0) for i in range(512)]), "long a")
        self.same(self.call(way, 1, 512, 1, 1, [0], a), [512, sum(a)] + coded([(0, j) for j in range(512)]), "long b")


if __name__ == "__main__":
    unittest.main()
