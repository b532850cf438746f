"""Points 17 to 21: songs."""

import random
import unittest

from hearhall.songs import songs
from steady import SteadyCase

FULL = 4294967295
FAR = 2147483647
REFUSED = [-2, 0]
NOT_FOUND = [-1, 0]


def add(*prints):
    return [1, *prints]


def drop(song):
    return [2, song]


def find(limit, *q):
    return [3, limit, *q]


def votes(*q):
    return [4, *q]


def found(song, place, many):
    return [0, 3, song, place, many]


class PlainBank:
    """A bank place by place and shift by shift, as the words say it."""

    def __init__(self):
        self.songs = [None] * 64

    def answer(self, call):
        return {1: self.add, 2: self.drop, 3: self.find, 4: self.votes}[call[0]](call[1:])

    def add(self, prints):
        if not 1 <= len(prints) <= 4096:
            return REFUSED
        if None not in self.songs:
            return [-1, 0]
        song = self.songs.index(None)
        self.songs[song] = list(prints)
        return [song, 0]

    def drop(self, rest):
        song = rest[0]
        if not 0 <= song < 64 or self.songs[song] is None:
            return REFUSED
        self.songs[song] = None
        return [0, 0]

    def find(self, rest):
        limit, q = rest[0], rest[1:]
        if not 1 <= len(q) <= 256:
            return REFUSED
        places = []
        for song, prints in enumerate(self.songs):
            for place in range(len(prints or [])):
                window = (prints or [])[place:place + len(q)]
                if len(window) == len(q):
                    places.append((sum(bin(a ^ b).count("1") for a, b in zip(window, q)), song, place))
        if not places or min(places)[0] > limit:
            return NOT_FOUND
        far, song, place = min(places)
        return found(song, place, far)

    def votes(self, q):
        n = len(q)
        if not 1 <= n <= 256:
            return REFUSED
        best = (0, 0, 0)
        for song, prints in enumerate(self.songs):
            if prints is None:
                continue
            for s in range(len(prints) + n - 1):
                many = sum(0 <= i + s + 1 - n < len(prints) and prints[i + s + 1 - n] == q[i] for i in range(n))
                if many > best[2]:
                    best = (song, s, many)
        return found(*best) if best[2] else NOT_FOUND


def plainly(calls):
    bank = PlainBank()
    return [number for call in calls for number in bank.answer(call)]


class SongsCase(SteadyCase):
    def told(self, calls, *answers):
        """Asks that the calls are answered so, one behind another."""
        told = [number for answer in answers for number in answer]
        self.same(self.call(songs, calls), told, "songs")
        self.same(plainly(calls), told, "the words")


class Add(SongsCase):
    def test_numbers_in_order(self):
        self.told([add(1), add(1, 2), add(FULL)], [0, 0], [1, 0], [2, 0])

    def test_no_prints(self):
        self.told([add()], REFUSED)
        self.told([add(), add(7), add(), votes(7)], REFUSED, [0, 0], REFUSED, found(0, 0, 1))

    def test_as_many_prints_as_a_call_may_have(self):
        prints = list(range(309))
        self.told([add(*prints), find(0, 308)], [0, 0], found(0, 308, 0))

    def test_as_many_prints_as_a_song_may_have(self):
        # More than a call may hand in, but the promise speaks of so many.
        self.told([add(*range(4096)), votes(4095)], [0, 0], found(0, 4095, 1))
        self.told([add(*range(4097)), votes(4095)], REFUSED, NOT_FOUND)

    def test_room_for_64(self):
        calls = [add(song) for song in range(64)]
        answers = [[song, 0] for song in range(64)]
        self.told(calls, *answers)
        self.told(calls + [add(64)], *answers, [-1, 0])
        self.told(calls + [add(64), add(65), votes(64), votes(63)], *answers, [-1, 0], [-1, 0], NOT_FOUND,
                  found(63, 0, 1))

    def test_no_prints_refuses_where_there_is_no_room_too(self):
        calls = [add(song) for song in range(64)] + [add()]
        self.told(calls, *[[song, 0] for song in range(64)], REFUSED)

    def test_room_again_after_a_drop(self):
        calls = [add(song) for song in range(64)] + [drop(63), add(99), add(98), votes(99), votes(63)]
        answers = [[song, 0] for song in range(64)] + [[0, 0], [63, 0], [-1, 0], found(63, 0, 1), NOT_FOUND]
        self.told(calls, *answers)

    def test_the_least_number_that_is_free(self):
        calls = [add(10), add(11), add(12), add(13), drop(2), drop(0), add(20), add(22), add(24)]
        self.told(calls, [0, 0], [1, 0], [2, 0], [3, 0], [0, 0], [0, 0], [0, 0], [2, 0], [4, 0])

    def test_prints_as_large_as_words(self):
        self.told([add(0, FULL), find(0, FULL), find(0, 0, FULL)], [0, 0], found(0, 1, 0), found(0, 0, 0))

    def test_the_same_song_twice(self):
        self.told([add(5), add(5), drop(0), find(0, 5)], [0, 0], [1, 0], [0, 0], found(1, 0, 0))


class Drop(SongsCase):
    def test_a_song_that_is_there(self):
        self.told([add(5), drop(0), votes(5), find(32, 5)], [0, 0], [0, 0], NOT_FOUND, NOT_FOUND)

    def test_a_song_that_is_gone(self):
        self.told([add(5), drop(0), drop(0)], [0, 0], [0, 0], REFUSED)

    def test_a_song_that_never_was(self):
        self.told([drop(0)], REFUSED)
        self.told([add(5), drop(1)], [0, 0], REFUSED)

    def test_numbers_out_of_reach(self):
        # Python would take -1 for the last one of a list.
        for song in (-1, -2, -64, -65, -FAR - 1, 63, 64, 65, 4096, FAR):
            self.told([add(5), drop(song), find(0, 5)], [0, 0], REFUSED, found(0, 0, 0))

    def test_with_a_full_bank(self):
        calls = [add(song) for song in range(64)] + [drop(-1), drop(64), drop(63), drop(63)]
        self.told(calls, *[[song, 0] for song in range(64)], REFUSED, REFUSED, [0, 0], REFUSED)

    def test_the_others_stay(self):
        calls = [add(5), add(6), add(7), drop(1), votes(5), votes(6), votes(7)]
        self.told(calls, [0, 0], [1, 0], [2, 0], [0, 0], found(0, 0, 1), NOT_FOUND, found(2, 0, 1))


class Find(SongsCase):
    def test_an_ordinary_place(self):
        self.told([add(1, 2, 4, 8), add(16, 32, 64), find(0, 4, 8), find(0, 32, 64)],
                  [0, 0], [1, 0], found(0, 2, 0), found(1, 1, 0))

    def test_q_of_no_words(self):
        self.told([find(5)], REFUSED)
        self.told([add(1), find(5)], [0, 0], REFUSED)

    def test_q_of_256_and_257_words(self):
        prints = [i * 2654435761 % 4294967296 for i in range(300)]
        self.told([add(*prints), find(0, *prints[20:276])], [0, 0], found(0, 20, 0))
        self.told([add(*prints), find(0, *prints[20:277])], [0, 0], REFUSED)
        self.told([add(*prints), find(FULL, *prints[:257])], [0, 0], REFUSED)
        self.told([find(0, *prints[:256])], NOT_FOUND)
        self.told([find(0, *prints[:257])], REFUSED)

    def test_one_word(self):
        self.told([add(15, 3, 1), find(32, 0)], [0, 0], found(0, 2, 1))

    def test_songs_shorter_than_q(self):
        self.told([add(1, 2), find(FULL, 1, 2, 3)], [0, 0], NOT_FOUND)
        self.told([add(1, 2), add(0, 0, 0), find(FULL, 1, 2, 3)], [0, 0], [1, 0], found(1, 0, 4))
        # Just as long as q, there is one place.
        self.told([add(1, 2, 3), find(0, 1, 2, 3)], [0, 0], found(0, 0, 0))

    def test_q_does_not_hang_out(self):
        self.told([add(1, 2, 3, 0), find(FULL, 3, 0, 0)], [0, 0], found(0, 1, 3))

    def test_at_the_first_and_the_last_place(self):
        self.told([add(7, 0, 0, 9), find(0, 7, 0), find(0, 0, 9)], [0, 0], found(0, 0, 0), found(0, 2, 0))

    def test_bits_and_not_how_far_apart(self):
        # 7 is nearer to 8 by size, but 0 by bits.
        self.told([add(7, 0), find(32, 8)], [0, 0], found(0, 1, 1))

    def test_as_near_in_one_song(self):
        self.told([add(1, 2, 4, 1), find(32, 0)], [0, 0], found(0, 0, 1))
        self.told([add(3, 1, 2, 4), find(32, 0)], [0, 0], found(0, 1, 1))

    def test_as_near_in_two_songs(self):
        self.told([add(3, 1), add(1, 3), find(32, 0)], [0, 0], [1, 0], found(0, 1, 1))

    def test_the_first_song_is_that_of_the_least_number(self):
        # Song 0 came last.
        calls = [add(9), add(3, 1), drop(0), add(3, 3, 1), find(32, 0)]
        self.told(calls, [0, 0], [1, 0], [0, 0], [0, 0], found(0, 2, 1))

    def test_a_nearer_one_behind(self):
        self.told([add(3, 1), add(3, 0), find(32, 0)], [0, 0], [1, 0], found(1, 1, 0))

    def test_limit_just_met_and_one_too_small(self):
        self.told([add(7), find(3, 0), find(2, 0), find(0, 7), find(FULL, 0)],
                  [0, 0], found(0, 0, 3), NOT_FOUND, found(0, 0, 0), found(0, 0, 3))
        self.told([add(FULL, FULL), find(64, 0, 0), find(63, 0, 0)], [0, 0], found(0, 0, 64), NOT_FOUND)

    def test_no_song_at_all(self):
        self.told([find(FULL, 1)], NOT_FOUND)
        self.told([add(1), drop(0), find(FULL, 1)], [0, 0], [0, 0], NOT_FOUND)


class Votes(SongsCase):
    def test_an_ordinary_shift(self):
        # q's first is the song's third: 0 + s + 1 - 2 is 2.
        self.told([add(1, 2, 3, 4), votes(3, 4)], [0, 0], found(0, 3, 2))

    def test_q_of_no_words(self):
        self.told([votes()], REFUSED)
        self.told([add(1), votes()], [0, 0], REFUSED)

    def test_q_of_256_and_257_words(self):
        prints = list(range(1000, 1300))
        self.told([add(*prints), votes(*prints[:256])], [0, 0], found(0, 255, 256))
        self.told([add(*prints), votes(*prints[:257])], [0, 0], REFUSED)
        self.told([votes(*prints[:256])], NOT_FOUND)
        self.told([votes(*prints[:257])], REFUSED)

    def test_one_word(self):
        self.told([add(5, 6, 7), votes(5), votes(7), votes(8)],
                  [0, 0], found(0, 0, 1), found(0, 2, 1), NOT_FOUND)

    def test_shifts_at_both_ends(self):
        # The song's first is q's last, then the song's last q's first.
        self.told([add(1, 2, 3), votes(9, 8, 1), votes(3, 9, 8)], [0, 0], found(0, 0, 1), found(0, 4, 1))
        self.told([add(1), votes(9, 1), votes(1, 9)], [0, 0], found(0, 0, 1), found(0, 1, 1))

    def test_q_hanging_out(self):
        self.told([add(1, 2, 3, 4), votes(9, 8, 1, 2), votes(3, 4, 9, 8)], [0, 0], found(0, 1, 2), found(0, 5, 2))
        # On both sides.
        self.told([add(1, 2), votes(7, 1, 2, 7)], [0, 0], found(0, 2, 2))

    def test_words_between_need_not_be_alike(self):
        self.told([add(1, 2, 3, 4, 5), votes(1, 9, 3, 9, 5)], [0, 0], found(0, 4, 3))

    def test_words_agree_as_a_whole(self):
        self.told([add(1, 3), votes(2)], [0, 0], NOT_FOUND)
        self.told([add(0, FULL), votes(FULL), votes(0)], [0, 0], found(0, 1, 1), found(0, 0, 1))

    def test_each_word_counts_as_often_as_it_stands(self):
        self.told([add(5, 5, 5), votes(5, 5)], [0, 0], found(0, 1, 2))
        self.told([add(5, 5), votes(5, 5, 5)], [0, 0], found(0, 1, 2))

    def test_shifts_with_as_many(self):
        self.told([add(1, 2, 1, 2), votes(1, 2)], [0, 0], found(0, 1, 2))
        self.told([add(1, 2), votes(2, 1)], [0, 0], found(0, 0, 1))

    def test_songs_with_as_many(self):
        self.told([add(9, 9, 1), add(1, 9), votes(1)], [0, 0], [1, 0], found(0, 2, 1))
        self.told([add(9, 1), add(1, 2), votes(1, 2)], [0, 0], [1, 0], found(1, 1, 2))

    def test_the_first_song_is_that_of_the_least_number(self):
        calls = [add(9), add(1), drop(0), add(8, 1), votes(1)]
        self.told(calls, [0, 0], [1, 0], [0, 0], [0, 0], found(0, 1, 1))

    def test_none_that_has_any(self):
        self.told([add(1, 2), add(3), votes(4, 5)], [0, 0], [1, 0], NOT_FOUND)

    def test_no_song_at_all(self):
        self.told([votes(1)], NOT_FOUND)
        self.told([add(1), drop(0), votes(1)], [0, 0], [0, 0], NOT_FOUND)


class Whole(SongsCase):
    def test_a_refused_call_changes_nothing(self):
        quiet = [add(1, 2, 3), add(4, 5), drop(0), votes(4), find(9, 4, 5), add(7), votes(7)]
        refused = [add(), drop(9), drop(-1), find(3), votes(), find(3, *range(257)), votes(*range(257))]
        plain = self.call(songs, quiet)
        for place in range(len(quiet) + 1):
            calls = quiet[:place] + refused + quiet[place:]
            answers = self.call(songs, calls)
            before = len(self.call(songs, quiet[:place])) if place else 0
            self.assertEqual(answers[before:before + 14], REFUSED * 7)
            self.assertEqual(answers[:before] + answers[before + 14:], plain)

    def test_looking_changes_nothing(self):
        calls = [add(1, 2), find(9, 1), votes(1), find(0, 9), votes(9), find(9, 1), votes(1)]
        self.told(calls, [0, 0], found(0, 0, 0), found(0, 0, 1), NOT_FOUND, NOT_FOUND, found(0, 0, 0), found(0, 0, 1))

    def test_a_bank_is_empty_at_first_each_time(self):
        self.told([add(1)], [0, 0])
        self.told([add(1)], [0, 0])
        self.told([votes(1)], NOT_FOUND)

    def test_one_list_as_several_calls(self):
        call = add(1, 2)
        self.told([call, call, drop(0), call], [0, 0], [1, 0], [0, 0], [0, 0])

    def test_many_calls(self):
        chance = random.Random(17)
        for turn in range(300):
            greatest = chance.choice((1, 3, FULL))
            calls = []
            for place in range(chance.randint(1, 40)):
                words = [chance.randint(0, greatest) for word in range(chance.randint(0, 6))]
                calls.append(chance.choice((
                    add(*words), add(*words), drop(chance.randint(-1, 8)),
                    find(chance.choice((0, 1, 3, 40, FULL)), *words[:3]), votes(*words))))
            self.same(self.call(songs, calls), plainly(calls), calls)

    def test_many_calls_on_a_full_bank(self):
        chance = random.Random(64)
        for turn in range(20):
            calls = [add(chance.randint(0, 3), chance.randint(0, 3)) for song in range(60)]
            for place in range(40):
                calls.append(chance.choice((add(3), add(2, 1), drop(chance.randint(0, 63)), votes(3), find(1, 2, 1))))
            self.same(self.call(songs, calls), plainly(calls), calls)

    def test_as_much_as_may_be(self):
        words = [i * 2654435761 % 4294967296 for i in range(1000)]
        calls = [add(*words[song:song + 309]) for song in range(64)]
        calls += [find(0, *words[100:356]), votes(*words[100:356]), find(8192, *words[300:556])]
        answer = self.call(songs, calls)
        self.assertEqual(answer[:128], [number for song in range(64) for number in (song, 0)])
        self.assertEqual(answer[128:138], found(47, 53, 0) + found(47, 308, 256))
        self.assertEqual(answer[138:140], [0, 3])


if __name__ == "__main__":
    unittest.main()
