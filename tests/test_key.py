"""Point 26: key."""

import random
import unittest

from hearhall.music import key
from steady import SteadyCase

FAR = 4294967295
FIRST = [635, 223, 348, 233, 438, 409, 252, 519, 239, 366, 229, 288]
SECOND = [633, 268, 352, 538, 260, 353, 254, 475, 398, 269, 334, 317]


def fits(h):
    """How well each key fits, term by term, as the words say it."""
    answer = []
    for number in range(24):
        profile = FIRST if number < 12 else SECOND
        keynote = number % 12
        total = 0
        for i in range(12):
            total += h[(keynote + i) % 12] * (12 * profile[i] - sum(profile))
        answer.append(total)
    return answer


def plainly(h):
    told = fits(h)
    return [told.index(max(told))]


def turned(profile, keynote):
    """A row that is the profile on this keynote."""
    return [profile[(note - keynote) % 12] for note in range(12)]


class Key(SteadyCase):
    def test_each_of_the_24_keys(self):
        for keynote in range(12):
            self.assertEqual(self.call(key, turned(FIRST, keynote)), [keynote])
            self.assertEqual(self.call(key, turned(SECOND, keynote)), [12 + keynote])

    def test_scales_and_chords(self):
        self.assertEqual(self.call(key, [9, 0, 5, 0, 6, 5, 0, 8, 0, 5, 0, 4]), [0])
        self.assertEqual(self.call(key, turned([9, 0, 5, 6, 0, 5, 0, 8, 5, 0, 5, 0], 9)), [21])

    def test_one_note_alone(self):
        for note in range(12):
            h = [0] * 12
            h[note] = 1
            self.assertEqual(self.call(key, h), plainly(h))
            self.assertEqual(self.call(key, h), [note])

    def test_one_note_missing(self):
        for note in range(12):
            h = [1] * 12
            h[note] = 0
            self.assertEqual(self.call(key, h), plainly(h))

    def test_twelve_times_0(self):
        self.assertEqual(self.call(key, [0] * 12), [0])

    def test_all_keys_fit_alike(self):
        # The profile's sum is taken away, so an even row fits each key by 0.
        for number in (1, 1000, FAR):
            self.assertEqual(fits([number] * 12), [0] * 24)
            self.assertEqual(self.call(key, [number] * 12), [0])

    def test_some_keys_fit_alike(self):
        # A row that comes again after 6, 4, 3 or 2 notes fits keynotes as far apart alike.
        for h in ([5, 0, 0, 1, 0, 0] * 2, [5, 1, 0, 0] * 3, [0, 7, 1] * 4, [0, 1] * 6, [1, 0] * 6):
            told = fits(h)
            self.assertGreater(told.count(max(told)), 1)
            self.assertEqual(self.call(key, h), [told.index(max(told))])

    def test_the_profiles_sums_are_taken_away(self):
        # By the profile alone, large even parts would lean to the profile with the greater sum.
        h = [1000 + number for number in turned(FIRST, 4)]
        self.assertEqual(self.call(key, h), [4])
        h = [FAR - 700 + number for number in turned(FIRST, 4)]
        self.assertEqual(self.call(key, h), [4])

    def test_large_words(self):
        self.assertEqual(self.call(key, [FAR] + [0] * 11), [0])
        self.assertEqual(self.call(key, [0] * 11 + [FAR]), [11])
        for keynote in range(12):
            self.assertEqual(self.call(key, [number * 6700000 for number in turned(FIRST, keynote)]), [keynote])
            self.assertEqual(self.call(key, [number * 6700000 for number in turned(SECOND, keynote)]), [12 + keynote])

    def test_many_rows(self):
        chance = random.Random(26)
        found = set()
        for turn in range(2000):
            greatest = chance.choice((1, 2, 255, FAR))
            h = [chance.randint(0, greatest) for note in range(12)]
            self.assertEqual(key(h), plainly(h), h)
            found.add(key(h)[0])
        self.assertEqual(found, set(range(24)))

    def test_steady(self):
        self.assertEqual(self.call(key, list(range(12))), plainly(list(range(12))))


if __name__ == "__main__":
    unittest.main()
