"""Point 24: beats."""

import random
import unittest

from hearhall.music import beats
from steady import SteadyCase

FAR = 4294967295


def plainly(spell, stiff, news):
    """Place by place, as the words say it."""
    if not (1 <= spell <= 1024 and stiff <= 65535 and len(news) <= 4096):
        return [-2]
    brings = {}
    before = {}
    for t in range(len(news)):
        offers = []
        for gap in range((spell + 1) // 2, 2 * spell + 1):
            if t - gap in brings:
                offers.append((brings[t - gap] - stiff * abs(gap - spell), -gap))
        most, gap = max(offers, default=(0, 0))
        brings[t] = news[t] + (most if most > 0 else 0)
        before[t] = t + gap if most > 0 else None
    if not news:
        return [0]
    place = min(t for t in brings if brings[t] == max(brings.values()))
    places = []
    while place is not None:
        places.insert(0, place)
        place = before[place]
    return [len(places)] + places


class Bounds(SteadyCase):
    def test_period(self):
        self.assertEqual(self.call(beats, 0, 0, [1, 1]), [-2])
        self.assertEqual(self.call(beats, 1, 0, [1, 1]), [2, 0, 1])
        self.assertEqual(self.call(beats, 1024, 0, [1] + [0] * 1023 + [1])[-1], 1024)
        self.assertEqual(self.call(beats, 1024, 0, [1, 1]), [1, 0])
        for spell in (1025, 65536, FAR):
            self.assertEqual(self.call(beats, spell, 0, [1, 1]), [-2])
            self.assertEqual(self.call(beats, spell, 0, []), [-2])
        self.assertEqual(self.call(beats, 0, 0, []), [-2])

    def test_stiff(self):
        self.assertEqual(self.call(beats, 2, 65535, [9, 0, 9]), [2, 0, 2])
        for stiff in (65536, 65537, FAR):
            self.assertEqual(self.call(beats, 2, stiff, [9, 0, 9]), [-2])
            self.assertEqual(self.call(beats, 2, stiff, []), [-2])

    def test_n(self):
        self.assertEqual(self.call(beats, 5, 3, []), [0])
        for number in (0, 1, FAR):
            self.assertEqual(self.call(beats, 5, 3, [number]), [1, 0])
        self.same(self.call(beats, 1, 0, [1] * 4096), [4096] + list(range(4096)), "just as many")
        for n in (4097, 4200):
            self.assertEqual(self.call(beats, 1, 0, [1] * n), [-2])


class Gaps(SteadyCase):
    def test_an_even_beat(self):
        self.assertEqual(self.call(beats, 4, 10, [9, 0, 0, 0] * 4 + [9]), [5, 0, 4, 8, 12, 16])

    def test_an_uneven_beat(self):
        # 0, 4, 9, 13: the gap of 5 costs 2.
        news = [9, 0, 0, 0, 9, 0, 0, 0, 0, 9, 0, 0, 0, 9]
        self.assertEqual(self.call(beats, 4, 2, news), [4, 0, 4, 9, 13])

    def test_the_shortest_gap_there_is(self):
        self.assertEqual(self.call(beats, 4, 0, [9, 0, 9]), [2, 0, 2])
        self.assertEqual(self.call(beats, 4, 0, [9, 9]), [1, 0])
        self.assertEqual(self.call(beats, 4, 0, [8, 9]), [1, 1])
        # Of 5 it's 3, not 2.
        self.assertEqual(self.call(beats, 5, 0, [9, 0, 0, 9]), [2, 0, 3])
        self.assertEqual(self.call(beats, 5, 0, [9, 0, 9]), [1, 0])
        self.assertEqual(self.call(beats, 3, 0, [9, 0, 9]), [2, 0, 2])
        self.assertEqual(self.call(beats, 3, 0, [9, 9]), [1, 0])
        self.assertEqual(self.call(beats, 2, 0, [9, 9]), [2, 0, 1])

    def test_twice_the_period(self):
        # Two gaps of a period cost less than one of two.
        self.assertEqual(self.call(beats, 2, 1, [9, 0, 0, 0, 9]), [3, 0, 2, 4])
        self.assertEqual(self.call(beats, 1, 3, [9, 0, 9]), [3, 0, 1, 2])
        self.assertEqual(self.call(beats, 3, 0, [9, 0, 0, 0, 0, 0, 9]), plainly(3, 0, [9, 0, 0, 0, 0, 0, 9]))
        self.assertEqual(self.call(beats, 3, 2, [9, 0, 0, 0, 0, 0, 9]), [3, 0, 3, 6])

    def test_more_than_a_period(self):
        # No beat between makes it cheaper: 4 and 7, say, would cost 5, and 11 costs 3.
        for gap, stiff in ((9, 1), (10, 1), (11, 1)):
            news = [50] + [0] * (gap - 1) + [50]
            self.assertEqual(self.call(beats, 8, stiff, news), [2, 0, gap])

    def test_a_gap_that_costs_as_much_as_the_beat_before_brings(self):
        # To place 3 the gaps of 3 and of 1 (by way of 2) cost 5, and bring 5.
        self.assertEqual(self.call(beats, 2, 5, [5, 0, 0, 9]), [1, 3])
        # At 4 they bring one more than they cost.
        self.assertEqual(self.call(beats, 2, 4, [5, 0, 0, 9]), [3, 0, 2, 3])
        self.assertEqual(self.call(beats, 2, 6, [5, 0, 0, 9]), [1, 3])

    def test_a_gap_that_costs_all_but_one(self):
        self.assertEqual(self.call(beats, 4, 3, [6, 0, 8]), [1, 2])
        self.assertEqual(self.call(beats, 4, 3, [7, 0, 8]), [2, 0, 2])

    def test_how_far_each_gap_is_from_period(self):
        # A gap of 3 is one too short, and one of 5 one too long: both cost 7.
        self.assertEqual(self.call(beats, 4, 7, [8, 0, 0, 8]), [2, 0, 3])
        self.assertEqual(self.call(beats, 4, 7, [7, 0, 0, 8]), [1, 3])
        self.assertEqual(self.call(beats, 4, 7, [8, 0, 0, 0, 0, 8]), [2, 0, 5])
        self.assertEqual(self.call(beats, 4, 7, [7, 0, 0, 0, 0, 8]), [1, 5])

    def test_beats_before_that_bring_as_much(self):
        # Gaps of 5 and 3 to place 5 cost as much: the shorter one is before it.
        self.assertEqual(self.call(beats, 4, 5, [9, 0, 9, 0, 0, 9]), [2, 2, 5])
        # With stiff of 0 all gaps cost alike.
        self.assertEqual(self.call(beats, 6, 0, [5, 5, 0, 0, 9]), [2, 1, 4])
        self.assertEqual(self.call(beats, 4, 0, [5, 5, 5, 0, 0, 9]), [3, 0, 2, 5])


class Most(SteadyCase):
    def test_the_first_place_that_brings_the_most(self):
        self.assertEqual(self.call(beats, 4, 0, [7, 7]), [1, 0])
        self.assertEqual(self.call(beats, 4, 9, [0, 7, 7, 7]), [1, 1])
        self.assertEqual(self.call(beats, 4, 0, [9, 0, 9, 0, 0, 0]), [2, 0, 2])
        self.assertEqual(self.call(beats, 2, 0, [9, 0, 9, 0, 0, 0]), [3, 0, 1, 2])

    def test_nothing_new(self):
        self.assertEqual(self.call(beats, 2, 0, [0] * 9), [1, 0])
        self.assertEqual(self.call(beats, 2, 5, [0] * 9), [1, 0])

    def test_it_need_not_end_at_the_last(self):
        self.assertEqual(self.call(beats, 3, 65535, [9, 0, 0, 9, 1]), [2, 0, 3])

    def test_it_need_not_begin_at_the_first(self):
        self.assertEqual(self.call(beats, 3, 65535, [1, 9, 0, 0, 9]), [2, 1, 4])

    def test_large_words(self):
        self.assertEqual(self.call(beats, 2, 65535, [FAR, 0, FAR, 0, FAR]), [3, 0, 2, 4])
        # Words are not cut at 65535 here: the gap of 3 costs 65535.
        self.assertEqual(self.call(beats, 2, 65535, [65536, 0, 0, 99999]), [3, 0, 2, 3])
        self.assertEqual(self.call(beats, 2, 65535, [65535, 0, 0, 99999]), [1, 3])
        self.assertEqual(self.call(beats, 2, 65535, [FAR, FAR - 1, 0]), plainly(2, 65535, [FAR, FAR - 1, 0]))
        self.same(self.call(beats, 1, 0, [FAR] * 4096), [4096] + list(range(4096)), "sums above 32 bits")


class Many(SteadyCase):
    def test_many_rows(self):
        chance = random.Random(24)
        for turn in range(3000):
            greatest = chance.choice((1, 3, 20, FAR))
            news = [chance.randint(0, greatest) for place in range(chance.randint(0, 25))]
            spell = chance.randint(1, 8)
            stiff = chance.choice((0, 1, 2, 5, 65535))
            self.assertEqual(beats(spell, stiff, news), plainly(spell, stiff, news), (spell, stiff, news))

    def test_as_much_as_may_be(self):
        news = [i * 40503 % 65536 for i in range(4096)]
        for spell in (700, 1024):
            answer = self.call(beats, spell, 65535, news)
            self.assertEqual(answer[0], len(answer) - 1)
            for last, place in zip(answer[1:], answer[2:]):
                self.assertTrue((spell + 1) // 2 <= place - last <= 2 * spell)


if __name__ == "__main__":
    unittest.main()
