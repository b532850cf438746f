"""What several of the calls share, and the workings of an ear and of ways."""

SAMPLE_LEAST = -32768
SAMPLE_MOST = 32767
REFUSED = -2


def held(number):
    """The sample that is nearest to the number."""
    if number < SAMPLE_LEAST:
        return SAMPLE_LEAST
    if number > SAMPLE_MOST:
        return SAMPLE_MOST
    return number


def bits_unlike(a, b):
    """How many bits of two words differ."""
    # Counted for all bits at once, in pairs, in fours, then in eights: a walk over 32 bits would take far longer.
    bits = a ^ b
    bits = (bits & 0x55555555) + ((bits >> 1) & 0x55555555)
    bits = (bits & 0x33333333) + ((bits >> 2) & 0x33333333)
    bits = (bits & 0x0F0F0F0F) + ((bits >> 4) & 0x0F0F0F0F)
    # The four counts are below 255 together, so they are what's left of the number when 255s are taken away.
    return bits % 255


def level_of(e):
    """The level of a sum of squares: four steps for each doubling, 0 of 0."""
    if e == 0:
        return 0
    k = e.bit_length() - 1
    return 4 * k + ((4 * e) >> k) - 4


def lag(x, j):
    """The sum of x's numbers, each by the one j places behind it."""
    return sum([p * q for p, q in zip(x, x[j:])])


class Band:
    def __init__(self, coefs):
        """One filter of an ear, that has heard nothing; coefs are b0, b1, b2, a1 and a2."""
        self.coefs = coefs
        self.latest = 0
        self.earlier = 0
        self.power = 0

    def powers_of(self, heard, since, hop):
        """Filters heard from its third number on; the sum of squares in each frame that goes.

        The first two of heard are the samples before; since is how many samples have come since the last frame.
        """
        b0 = self.coefs[0]
        b1 = self.coefs[1]
        b2 = self.coefs[2]
        a1 = self.coefs[3]
        a2 = self.coefs[4]
        powers = []
        for i in range(2, len(heard)):
            ahead = b0 * heard[i] + b1 * heard[i - 1] + b2 * heard[i - 2]
            number = held((ahead - a1 * self.latest - a2 * self.earlier + 8192) // 16384)
            self.earlier = self.latest
            self.latest = number
            self.power = self.power + number * number
            since = since + 1
            if since == hop:
                powers.append(self.power)
                self.power = 0
                since = 0
        return powers


def frame_print(now, before):
    """The print of a frame's levels, with the last frame's."""
    word = 0
    for b in range(len(now) - 1):
        if now[b] - now[b + 1] > before[b] - before[b + 1]:
            word = word | (1 << b)
    return word


def frame_news(now, before):
    """How much is new in a frame's levels, with the last frame's."""
    return sum([max(0, p - q) for p, q in zip(now, before)])


class Ear:
    def __init__(self, bands, hop, coefs):
        """Filters that hear the same samples, and have heard nothing."""
        self.filters = [Band(coefs[5 * b:5 * b + 5]) for b in range(bands)]
        self.hop = hop
        self.since = 0
        self.tail = [0, 0]
        self.before = [0] * bands

    def push(self, said, x, most):
        """The number of frames that go, how many numbers are told, and these; or a refusal and 0."""
        frames = (self.since + len(x)) // self.hop
        if said != len(self.filters) or frames > most:
            return [REFUSED, 0]
        told = self.tell(self.hear(x, frames))
        return [frames, len(told)] + told

    def hear(self, x, frames):
        """Takes the samples in; each frame's levels."""
        heard = self.tail + x
        rows = [[] for frame in range(frames)]
        for band in self.filters:
            powers = band.powers_of(heard, self.since, self.hop)
            for frame in range(frames):
                rows[frame].append(level_of(powers[frame]))
        self.since = (self.since + len(x)) % self.hop
        self.tail = heard[-2:]
        return rows

    def tell(self, frames):
        """All levels, then all prints, then all news of the frames."""
        rows = []
        prints = []
        news = []
        for now in frames:
            rows.extend(now)
            prints.append(frame_print(now, self.before))
            news.append(frame_news(now, self.before))
            self.before = now
        return rows + prints + news


def frames_of(w, many, x):
    """A row cut into so many frames of w numbers."""
    return [x[w * i:w * i + w] for i in range(many)]


def may_stand(n, m, band, i, j):
    """Whether a way may go over the pair."""
    return abs(i * m - j * n) <= band * (n + m)


def pairs_before(costs, i, j):
    """The pairs that a way may come from, those first that are taken first of those as cheap."""
    pairs = []
    for pair in ((i - 1, j - 1), (i - 1, j), (i, j - 1)):
        if pair[0] >= 0 and pair[1] >= 0 and costs[pair[0]][pair[1]] is not None:
            pairs.append(pair)
    return pairs


def cheapest_before(costs, i, j):
    """The pair before (i, j) on the cheapest way there, None at the beginning."""
    # Of those as cheap min takes the first, so the order of the pairs decides.
    return min(pairs_before(costs, i, j), key=lambda pair: costs[pair[0]][pair[1]], default=None)


def cost_to(costs, i, j, apart):
    """What the cheapest way to (i, j) costs, if that pair itself costs apart."""
    pair = cheapest_before(costs, i, j)
    if pair is None:
        return apart
    return costs[pair[0]][pair[1]] + apart


def way_costs(band, frames, others):
    """For each pair of frames the cost of the cheapest way there, None where no way may go."""
    n = len(frames)
    m = len(others)
    costs = []
    for i in range(n):
        costs.append([None] * m)
        for j in range(m):
            if may_stand(n, m, band, i, j):
                apart = sum([abs(p - q) for p, q in zip(frames[i], others[j])])
                costs[i][j] = cost_to(costs, i, j, apart)
    return costs


def way_back(costs):
    """The pairs of the cheapest way, from the beginning."""
    pair = (len(costs) - 1, len(costs[0]) - 1)
    pairs = []
    while pair is not None:
        pairs.append(pair)
        pair = cheapest_before(costs, pair[0], pair[1])
    return list(reversed(pairs))
