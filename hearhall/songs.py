"""Songs kept by their prints, and known again from a few."""

from hearhall.parts import REFUSED, bits_unlike

NO_ROOM = -1
NOT_FOUND = -1
SONGS_MOST = 64
PRINTS_MOST = 4096
WORDS_MOST = 256

ADD = 1
DROP = 2
FIND = 3


def may_be_asked(q):
    """Whether q has as many words as may be looked for."""
    return 1 <= len(q) and len(q) <= WORDS_MOST


def unlike_at(prints, place, q):
    """How many bits of q and of the prints from the place on differ."""
    return sum([bits_unlike(x, y) for x, y in zip(prints[place:place + len(q)], q)])


def places_by_word(q):
    """For each word of q the places where it stands."""
    places = {}
    for i, word in enumerate(q):
        places.setdefault(word, []).append(i)
    return places


def votes_by_shift(prints, q, places):
    """For each shift how many words of q are the song's prints there; places are q's by word."""
    votes = [0] * (len(prints) + len(q) - 1)
    for p, word in enumerate(prints):
        for i in places.get(word, []):
            shift = p - i + len(q) - 1
            votes[shift] = votes[shift] + 1
    return votes


class Bank:
    def __init__(self):
        """A bank without songs; each that comes is kept by its number."""
        self.kept = {}

    def add_song(self, prints):
        """The number that the song gets: the least that's free."""
        if len(prints) < 1 or len(prints) > PRINTS_MOST:
            return [REFUSED, 0]
        for song in range(SONGS_MOST):
            if song not in self.kept:
                self.kept[song] = prints
                return [song, 0]
        return [NO_ROOM, 0]

    def drop_song(self, song):
        """0 if there was such a song."""
        if song not in self.kept:
            return [REFUSED, 0]
        self.kept.pop(song)
        return [0, 0]

    def find_place(self, limit, q):
        """The song, the place and how unlike it is, where a song is least unlike q."""
        if not may_be_asked(q):
            return [REFUSED, 0]
        best = None
        # A bank that has lost songs keeps them in another order than their numbers'.
        for song in sorted(self.kept):
            prints = self.kept[song]
            for place in range(len(prints) + 1 - len(q)):
                far = unlike_at(prints, place, q)
                if best is None or far < best[2]:
                    best = [song, place, far]
        if best is None or best[2] > limit:
            return [NOT_FOUND, 0]
        return [0, 3] + best

    def find_shift(self, q):
        """The song, the shift and how many words agree, where most do."""
        if not may_be_asked(q):
            return [REFUSED, 0]
        best = [0, 0, 0]
        places = places_by_word(q)
        for song in sorted(self.kept):
            votes = votes_by_shift(self.kept[song], q, places)
            most = max(votes)
            if most > best[2]:
                best = [song, votes.index(most), most]
        if best[2] == 0:
            return [NOT_FOUND, 0]
        return [0, 3] + best


def answer_to(bank, call):
    """The call's number, how many numbers its row has, and these."""
    if call[0] == ADD:
        return bank.add_song(call[1:])
    if call[0] == DROP:
        return bank.drop_song(call[1])
    if call[0] == FIND:
        return bank.find_place(call[1], call[2:])
    return bank.find_shift(call[1:])


def songs(calls):
    """The answers to calls on a bank that's empty at first, one behind another."""
    bank = Bank()
    answer = []
    for call in calls:
        answer.extend(answer_to(bank, call))
    return answer
