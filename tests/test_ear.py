"""Points 15 and 16: an ear."""

import random
import unittest

from hearhall.music import ear
from steady import SteadyCase

LEAST = -32768
MOST = 32767
# A filter that tells each sample as it is.
PLAIN = [16384, 0, 0, 0, 0]
SILENT = [0, 0, 0, 0, 0]


def plain_level(e):
    if e == 0:
        return 0
    k = len(bin(e)) - 3
    return 4 * k + (4 * e // 2 ** k - 4)


class PlainEar:
    """An ear sample by sample, as the words say it."""

    def __init__(self, bands, hop, coefs):
        self.bands = bands
        self.hop = hop
        self.coefs = [coefs[5 * b:5 * b + 5] for b in range(bands)]
        self.samples = [0, 0]
        self.numbers = [[0, 0] for b in range(bands)]
        self.squares = [0] * bands
        self.come = 0
        self.levels = [0] * bands

    def push(self, said, x, most):
        frames = (self.come % self.hop + len(x)) // self.hop
        if said != self.bands or frames > most:
            return [-2, 0]
        levels, prints, news = [], [], []
        for sample in x:
            self.sample(sample)
            if self.come % self.hop == 0:
                now = [plain_level(square) for square in self.squares]
                was = self.levels
                levels += now
                prints.append(sum(2 ** b for b in range(self.bands - 1) if now[b] - now[b + 1] > was[b] - was[b + 1]))
                news.append(sum(now[b] - was[b] for b in range(self.bands) if now[b] > was[b]))
                self.levels = now
                self.squares = [0] * self.bands
        told = levels + prints + news
        return [len(prints), len(told)] + told

    def sample(self, sample):
        self.samples.append(sample)
        self.come += 1
        for b, (b0, b1, b2, a1, a2) in enumerate(self.coefs):
            own = self.numbers[b]
            number = (b0 * self.samples[-1] + b1 * self.samples[-2] + b2 * self.samples[-3]
                      - a1 * own[-1] - a2 * own[-2] + 8192) // 16384
            own.append(min(max(number, LEAST), MOST))
            self.squares[b] += own[-1] ** 2


def plainly(bands, hop, most, said, coefs, x, y, z):
    if not (1 <= bands <= 33 and 1 <= hop <= 4096):
        return [-2]
    listener = PlainEar(bands, hop, coefs)
    return [0] + listener.push(said, x, most) + listener.push(said, y, most) + listener.push(said, z, most)


class Start(SteadyCase):
    def test_bands(self):
        for bands in (0, 34, 35, 40):
            self.assertEqual(self.call(ear, bands, 1, 9, bands, PLAIN * bands, [1], [], []), [-2])
        self.assertEqual(self.call(ear, 1, 1, 9, 1, PLAIN, [2], [], []), [0, 1, 3, 8, 0, 8, 0, 0, 0, 0])
        told = [0, 1, 35] + [8] * 33 + [0, 264] + [0, 0, 0, 0]
        self.assertEqual(self.call(ear, 33, 1, 9, 33, PLAIN * 33, [2], [], []), told)

    def test_hop(self):
        for hop in (0, 4097, 65536):
            self.assertEqual(self.call(ear, 1, hop, 9, 1, PLAIN, [1] * 10, [], []), [-2])
        self.assertEqual(self.call(ear, 1, 1, 9, 1, PLAIN, [4], [], []), [0, 1, 3, 16, 0, 16, 0, 0, 0, 0])
        told = [0, 0, 0, 1, 3, 48, 0, 48, 0, 0]
        self.assertEqual(self.call(ear, 1, 4096, 9, 1, PLAIN, [1] * 4095, [1], []), told)

    def test_both(self):
        self.assertEqual(self.call(ear, 0, 0, 9, 0, [], [], [], []), [-2])
        self.assertEqual(self.call(ear, 40, 65536, 9, 40, PLAIN * 40, [], [], []), [-2])

    def test_what_was_heard_is_0(self):
        # Anything but 0 before the first sample would be heard again by these filters.
        for echo in (MOST, LEAST):
            for place in (1, 2, 3, 4):
                coefs = [0] * 5
                coefs[place] = echo
                answer = self.call(ear, 1, 3, 9, 1, coefs, [0, 0, 0], [], [])
                self.assertEqual(answer, [0, 1, 3, 0, 0, 0, 0, 0, 0, 0])

    def test_refusal_comes_before_the_pushes(self):
        self.assertEqual(self.call(ear, 34, 1, 0, 7, PLAIN * 34, [1], [1], [1]), [-2])


class Filters(SteadyCase):
    def level(self, coefs, x):
        """The level that one filter tells of a row as one frame."""
        answer = self.call(ear, 1, len(x), 1, 1, coefs, x, [], [])
        self.assertEqual(answer[:3], [0, 1, 3])
        self.assertEqual(answer, plainly(1, len(x), 1, 1, coefs, x, [], []))
        return answer[3]

    def test_each_of_the_five_numbers(self):
        # With 16384 as one, x = 64 at first: what comes behind it is that number's alone.
        self.assertEqual(self.level([16384, 0, 0, 0, 0], [64, 0, 0]), plain_level(4096))
        self.assertEqual(self.level([0, 16384, 0, 0, 0], [64]), 0)
        self.assertEqual(self.level([0, 16384, 0, 0, 0], [64, 0]), plain_level(4096))
        self.assertEqual(self.level([0, 0, 16384, 0, 0], [64, 0]), 0)
        self.assertEqual(self.level([0, 0, 16384, 0, 0], [64, 0, 0]), plain_level(4096))
        # 64, then -64, then 64: a1 takes away.
        self.assertEqual(self.level([16384, 0, 0, 16384, 0], [64, 0, 0]), plain_level(3 * 4096))
        self.assertEqual(self.level([16384, 0, 0, 16384, 0], [64, 64, 0]), plain_level(4096))
        self.assertEqual(self.level([16384, 0, 0, 0, 16384], [64, 0]), plain_level(4096))
        self.assertEqual(self.level([16384, 0, 0, 0, 16384], [64, 0, 64]), plain_level(4096))
        self.assertEqual(self.level([16384, 0, 0, 0, -16384], [64, 0, 64]), plain_level(4096 + 128 * 128))

    def test_all_five_at_once(self):
        x = [1000, -2000, 3000, -4000, 5000, 0, 0, 0]
        self.level([5000, -3000, 2000, -9000, 4000], x)
        self.level([32767, LEAST, MOST, LEAST, 16000], x)

    def test_rounded_down_below_0(self):
        # Twice -1 squared is 2, of level 4; towards 0 both would be 0.
        self.assertEqual(self.level([1, 0, 0, 0, 0], [-8193, -8193]), 4)
        self.assertEqual(self.level([1, 0, 0, 0, 0], [-8192, -8192]), 0)
        self.assertEqual(self.level([1, 0, 0, 0, 0], [8191, 8191]), 0)
        self.assertEqual(self.level([1, 0, 0, 0, 0], [8192, 8192]), 4)
        self.assertEqual(self.level([1, 0, 0, 0, 0], [-24577, 0]), plain_level(4))
        self.assertEqual(self.level([1, 0, 0, 0, 0], [-24576, -24576]), plain_level(2))

    def test_held_at_both_ends(self):
        self.assertEqual(self.level([MOST, 0, 0, 0, 0], [MOST]), plain_level(MOST * MOST))
        self.assertEqual(self.level([MOST, 0, 0, 0, 0], [LEAST]), plain_level(LEAST * LEAST))
        self.assertEqual(self.level([16384, 0, 0, 0, 0], [MOST]), plain_level(MOST * MOST))
        self.assertEqual(self.level([16384, 0, 0, 0, 0], [LEAST]), plain_level(LEAST * LEAST))
        self.assertEqual(self.level([-16384, 0, 0, 0, 0], [LEAST]), plain_level(MOST * MOST))

    def test_what_is_held_goes_on_being_held(self):
        # The second number is half the first: half of what is held, not of twice that.
        x = [MOST, 0]
        self.assertEqual(self.level([MOST, 0, 0, -8192, 0], x), plain_level(MOST * MOST + 16384 * 16384))

    def test_each_filter_has_its_own_numbers(self):
        coefs = PLAIN + [0, 16384, 0, 0, 0] + [-8192, 0, 0, 0, 0]
        answer = self.call(ear, 3, 1, 9, 3, coefs, [64, 0], [], [])
        self.assertEqual(answer[:9], [0, 2, 10, plain_level(4096), 0, plain_level(1024), 0, plain_level(4096), 0])
        self.assertEqual(answer, plainly(3, 1, 9, 3, coefs, [64, 0], [], []))


class Frames(SteadyCase):
    def test_squares_are_since_the_last_frame(self):
        answer = self.call(ear, 1, 2, 9, 1, PLAIN, [3, 4, 0, 1, 5, 5], [], [])
        told = [plain_level(25), plain_level(1), plain_level(50)]
        self.assertEqual(answer, [0, 3, 9] + told + [0, 0, 0] + [18, 0, 22] + [0, 0, 0, 0])

    def test_levels_then_prints_then_news(self):
        # Two filters over two frames of one sample each.
        coefs = PLAIN + [0, 16384, 0, 0, 0]
        answer = self.call(ear, 2, 1, 9, 2, coefs, [2, 4], [], [])
        self.assertEqual(answer, [0, 2, 8, 8, 0, 16, 8, 1, 0, 8, 16, 0, 0, 0, 0])

    def test_a_frame_across_two_pushes(self):
        answer = self.call(ear, 1, 4, 9, 1, PLAIN, [1, 2, 3], [4, 5, 6, 7], [8, 9])
        told = [0, 0, 0, 1, 3, plain_level(30), 0, plain_level(30), 1, 3, plain_level(25 + 36 + 49 + 64), 0]
        told.append(plain_level(174) - plain_level(30))
        self.assertEqual(answer, told)

    def test_what_was_heard_goes_across_pushes(self):
        coefs = [0, 0, 16384, -16384, 0]
        whole = self.call(ear, 1, 5, 9, 1, coefs, [100, 0, 0, 0, 0], [], [])
        for first, second in ((1, 1), (1, 2), (2, 2), (0, 3)):
            x = [100, 0, 0, 0, 0]
            parts = self.call(ear, 1, 5, 9, 1, coefs, x[:first], x[first:first + second], x[first + second:])
            self.assertEqual(parts[-3:], whole[3:6])

    def test_the_same_samples_in_other_pieces(self):
        chance = random.Random(16)
        coefs = [chance.randint(-20000, 20000) for place in range(20)]
        x = [chance.randint(LEAST, MOST) for place in range(60)]
        whole = self.gathered(4, self.call(ear, 4, 7, 99, 4, coefs, x, [], []))
        for first in (0, 1, 2, 6, 7, 8, 20, 60):
            for second in (0, 1, 2, 7, 30):
                pieces = (x[:first], x[first:first + second], x[first + second:])
                self.assertEqual(self.gathered(4, self.call(ear, 4, 7, 99, 4, coefs, *pieces)), whole)

    def gathered(self, bands, answer):
        """All levels, all prints and all news of the three pushes."""
        levels, prints, news = [], [], []
        place = 1
        for turn in range(3):
            frames, many = answer[place:place + 2]
            told = answer[place + 2:place + 2 + many]
            self.assertEqual(many, frames * (bands + 2))
            levels += told[:frames * bands]
            prints += told[frames * bands:frames * bands + frames]
            news += told[frames * bands + frames:]
            place += 2 + many
        self.assertEqual(place, len(answer))
        return levels, prints, news

    def test_pushes_of_no_samples(self):
        self.assertEqual(self.call(ear, 2, 3, 0, 2, PLAIN * 2, [], [], []), [0, 0, 0, 0, 0, 0, 0])
        self.assertEqual(self.call(ear, 1, 1, 9, 1, PLAIN, [], [2], []), [0, 0, 0, 1, 3, 8, 0, 8, 0, 0])

    def test_prints_with_several_bits(self):
        # Levels 16, 8, 16, 8 at first: each step down is more than the 0 it was, each step up is not.
        coefs = PLAIN + [8192, 0, 0, 0, 0] + PLAIN + [8192, 0, 0, 0, 0]
        answer = self.call(ear, 4, 1, 9, 4, coefs, [4, 4, 0], [], [])
        levels = [16, 8, 16, 8, 16, 8, 16, 8, 0, 0, 0, 0]
        self.assertEqual(answer, [0, 3, 18] + levels + [5, 0, 2] + [48, 0, 0] + [0, 0, 0, 0])

    def test_all_bits_of_a_print(self):
        # Each filter's number is less than the one's before it, and so is the level, down to the last few.
        coefs = []
        for b in range(33):
            coefs += [32767 >> b // 2 if b % 2 == 0 else (32767 >> b // 2) * 3 // 4, 0, 0, 0, 0]
        x = [16000] * 4096
        answer = self.call(ear, 33, 4096, 1, 33, coefs, x, x, [0] * 4096)
        self.assertEqual(answer, plainly(33, 4096, 1, 33, coefs, x, x, [0] * 4096))
        self.assertEqual(answer[1 + 2 + 33], sum(2 ** b for b in range(32) if answer[3 + b] > answer[4 + b]))
        self.assertGreater(answer[1 + 2 + 33].bit_count(), 20)

    def test_bit_31_of_a_print(self):
        answer = self.call(ear, 33, 1, 1, 33, SILENT * 31 + PLAIN + SILENT, [4], [], [])
        self.assertEqual(answer[3 + 33], 2 ** 31)
        answer = self.call(ear, 33, 1, 1, 33, PLAIN + SILENT * 32, [4], [], [])
        self.assertEqual(answer[3 + 33], 1)

    def test_a_print_of_one_filter_is_0(self):
        answer = self.call(ear, 1, 1, 9, 1, PLAIN, [4, 0, 9], [], [])
        self.assertEqual(answer[6:9], [0, 0, 0])

    def test_what_is_new_does_not_weigh_what_is_less(self):
        # The first filter falls silent as the second, a sample behind, begins.
        coefs = PLAIN + [0, 16384, 0, 0, 0]
        answer = self.call(ear, 2, 1, 9, 2, coefs, [4, 0, 0], [], [])
        self.assertEqual(answer, [0, 3, 12, 16, 0, 0, 16, 0, 0, 1, 0, 1, 16, 16, 0, 0, 0, 0, 0])

    def test_the_last_frame_may_be_of_another_push(self):
        answer = self.call(ear, 1, 1, 9, 1, PLAIN, [4], [4], [8])
        self.assertEqual(answer, [0, 1, 3, 16, 0, 16, 1, 3, 16, 0, 0, 1, 3, 24, 0, 8])


class Refusals(SteadyCase):
    def test_most_just_met(self):
        self.assertEqual(self.call(ear, 1, 2, 1, 1, PLAIN, [1] * 3, [], [])[:3], [0, 1, 3])
        self.assertEqual(self.call(ear, 1, 2, 1, 1, PLAIN, [1] * 4, [], []), [0, -2, 0, 0, 0, 0, 0])
        self.assertEqual(self.call(ear, 1, 2, 2, 1, PLAIN, [1] * 4, [], [])[:3], [0, 2, 6])

    def test_most_of_0(self):
        answer = self.call(ear, 1, 2, 0, 1, PLAIN, [1], [1], [])
        self.assertEqual(answer, [0, 0, 0, -2, 0, 0, 0])

    def test_most_counts_frames_of_that_push_alone(self):
        answer = self.call(ear, 1, 1, 1, 1, PLAIN, [4], [4], [4])
        self.assertEqual(answer, [0, 1, 3, 16, 0, 16, 1, 3, 16, 0, 0, 1, 3, 16, 0, 0])

    def test_most_counts_samples_left_from_the_push_before(self):
        answer = self.call(ear, 1, 4, 1, 1, PLAIN, [1] * 3, [1] * 5, [1])
        self.assertEqual(answer, [0, 0, 0, -2, 0, 1, 3, plain_level(4), 0, plain_level(4)])

    def test_a_push_refused_because_of_most_is_as_if_it_had_not_been(self):
        chance = random.Random(8)
        coefs = [chance.randint(-20000, 20000) for place in range(15)]
        x = [chance.randint(LEAST, MOST) for place in range(9)]
        y = [chance.randint(LEAST, MOST) for place in range(50)]
        z = [chance.randint(LEAST, MOST) for place in range(9)]
        refused = self.call(ear, 3, 4, 3, 3, coefs, x, y, z)
        without = self.call(ear, 3, 4, 3, 3, coefs, x, [], z)
        frames = 2 * (3 + 2)
        self.assertEqual(refused[1:3 + frames], without[1:3 + frames])
        self.assertEqual(refused[3 + frames:5 + frames], [-2, 0])
        self.assertEqual(refused[5 + frames:], without[5 + frames:])
        first = self.call(ear, 3, 4, 3, 3, coefs, y, x, z)
        self.assertEqual(first[:3], [0, -2, 0])
        self.assertEqual(first[3:], self.call(ear, 3, 4, 3, 3, coefs, [], x, z)[3:])

    def test_said_is_not_the_bands(self):
        for said in (0, 1, 3, 33, 65536):
            answer = self.call(ear, 2, 2, 99, said, PLAIN * 2, [1] * 4, [], [1])
            self.assertEqual(answer, [0, -2, 0, -2, 0, -2, 0])
        self.assertEqual(self.call(ear, 2, 2, 99, 2, PLAIN * 2, [], [1], []), [0, 0, 0, 0, 0, 0, 0])


class Many(SteadyCase):
    def test_many_ears(self):
        chance = random.Random(1516)
        for turn in range(150):
            bands = chance.randint(1, 6)
            span = chance.choice((300, 16384, MOST))
            coefs = [chance.randint(-span, span) for place in range(5 * bands)]
            rows = [[chance.randint(LEAST, MOST) for place in range(chance.randint(0, 30))] for row in range(3)]
            given = (bands, chance.randint(1, 8), chance.choice((2, 4, 30)), chance.choice((bands, bands, bands, 2)),
                     coefs, rows[0], rows[1], rows[2])
            self.assertEqual(self.call(ear, *given), plainly(*given), given)

    def test_one_row_as_all_three(self):
        x = [1, -2, 3]
        self.assertEqual(self.call(ear, 1, 2, 9, 1, PLAIN, x, x, x), plainly(1, 2, 9, 1, PLAIN, x, x, x))

    def test_a_long_row(self):
        x = [i * 40503 % 65536 - 32768 for i in range(60000)]
        coefs = [8000, 100, -3000, -9000, 4000] * 2
        answer = self.call(ear, 2, 1, 60000, 2, coefs, x, [], [])
        self.same(answer, plainly(2, 1, 60000, 2, coefs, x, [], []), "a long row")
        answer = self.call(ear, 2, 4096, 65536, 2, coefs, x, x, x)
        self.same(answer, plainly(2, 4096, 65536, 2, coefs, x, x, x), "three long rows")


if __name__ == "__main__":
    unittest.main()
