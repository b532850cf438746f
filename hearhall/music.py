"""Samples read from bytes, and rows of samples, words and bytes worked on together."""

from hearhall.parts import REFUSED, Ear, bits_unlike, frames_of, held, lag, level_of, way_back, way_costs

# How many bytes a sample of each kind has.
SAMPLE_BYTES = (1, 2, 3, 4, 2)

FIRST_PROFILE = (635, 223, 348, 233, 438, 409, 252, 519, 239, 366, 229, 288)
SECOND_PROFILE = (633, 268, 352, 538, 260, 353, 254, 475, 398, 269, 334, 317)


def signed(octets):
    """The number with sign that the bytes make, the highest first."""
    number = octets[0]
    # The sign is the highest byte's alone, so no power of 256 is needed for it.
    if number > 127:
        number = number - 256
    for octet in octets[1:]:
        number = number * 256 + octet
    return number


def sample_of(kind, octets):
    """The sample that the bytes of one sample of this kind make."""
    if kind == 0:
        return 256 * octets[0] - 32768
    if kind == 4:
        return signed(octets)
    number = signed(list(reversed(octets)))
    if kind == 2:
        return held((number + 128) // 256)
    if kind == 3:
        return held((number + 32768) // 65536)
    return number


def samples(kind, sides, n, bytes_in):
    """0 and the n samples that the bytes make; -2 alone for an unknown kind or number of sides."""
    if kind < 0 or kind > 4 or sides < 1 or sides > 2:
        return [REFUSED]
    size = SAMPLE_BYTES[kind]
    answer = [0]
    for i in range(n):
        start = i * sides * size
        sample = sample_of(kind, bytes_in[start:start + size])
        if sides == 2:
            other = sample_of(kind, bytes_in[start + size:start + 2 * size])
            # Each side is a sample, already held, before the two are brought together.
            sample = (sample + other) // 2
        answer.append(sample)
    return answer


def signed_like(x, y):
    """x with the sign of y put on it, held since -(-32768) is no sample."""
    if y < 0:
        return held(-x)
    if y == 0:
        return 0
    return x


def combined(op, x, y):
    """What two samples become under an op from 0 to 7."""
    if op == 0:
        return held(x + y)
    if op == 1:
        return held(x - y)
    if op == 2:
        return held((x * y + 16384) // 32768)
    if op == 3:
        return (x + y + 1) // 2
    if op == 4:
        return max(x, y)
    if op == 5:
        return min(x, y)
    if op == 6:
        return held(abs(x - y))
    return signed_like(x, y)


def row(op, a, b):
    """0 and the row that a becomes with b; -2 alone for an unknown op."""
    if op < 0 or op > 7:
        return [REFUSED]
    return [0] + [combined(op, x, y) for x, y in zip(a, b)]


def sum_of(a, b):
    """The sum of a's numbers by b's, alone."""
    return [sum([x * y for x, y in zip(a, b)])]


def turns(x):
    """How often one number is below 0 and the next isn't, or the other way round, alone."""
    count = 0
    for i in range(1, len(x)):
        if (x[i - 1] < 0) != (x[i] < 0):
            count = count + 1
    return [count]


def middle(x):
    """0 and, for each number, the middle one by size of five: two before it, it, and two behind it."""
    if not x:
        return [0]
    wide = [x[0], x[0]] + x + [x[-1], x[-1]]
    return [0] + [sorted(wide[i:i + 5])[2] for i in range(len(x))]


def crest(w, x):
    """0 and the greatest of each w numbers in a row; -2 alone unless w is 1 to 256, and at most x's length."""
    if w < 1 or w > 256 or w > len(x):
        return [REFUSED]
    return [0] + [max(x[i:i + w]) for i in range(len(x) + 1 - w)]


def sign_bits(numbers):
    """A byte with a bit for each of up to eight numbers, the lowest for the first: 1 where it's below 0."""
    octet = 0
    for i, number in enumerate(numbers):
        if number < 0:
            octet = octet | (1 << i)
    return octet


def signs(x):
    """0 and the bytes that hold a bit for each number: 1 where it's below 0."""
    return [0] + [sign_bits(x[start:start + 8]) for start in range(0, len(x), 8)]


def unlike(a, b):
    """How many bits of a's words and b's differ, alone."""
    return [sum([bits_unlike(x, y) for x, y in zip(a, b)])]


def counts(x):
    """0 and how often each byte from 0 to 255 comes."""
    often = [0] * 256
    for octet in x:
        often[octet] = often[octet] + 1
    return [0] + often


def is_peak(least, x, i):
    """Whether x's i-th is least or more, more than what's before it and no less than what's behind it."""
    if x[i] < least:
        return False
    if i > 0 and x[i] <= x[i - 1]:
        return False
    return i + 1 == len(x) or x[i] >= x[i + 1]


def peaks(least, x):
    """How many peaks there are, and their places."""
    places = [i for i in range(len(x)) if is_peak(least, x, i)]
    return [len(places)] + places


def levels(e):
    """0 and the level of each number."""
    return [0] + [level_of(number) for number in e]


def lags(k, x):
    """0 and the lags from 0 on, below k."""
    return [0] + [lag(x, j) for j in range(k)]


def lag_apart(x, j):
    """The sum of how far x's numbers are from those j places behind them."""
    return sum([abs(p - q) for p, q in zip(x, x[j:])])


def apart(k, x):
    """0 and, for each j from 0 on, below k, how far the numbers j places from one another are apart."""
    return [0] + [lag_apart(x, j) for j in range(k)]


def pitch(low, high, x):
    """The first lag from low to high that is a peak and nearly the greatest, alone; 0 if there's none."""
    if low < 1 or low > high or high + 1 >= len(x):
        return [0]
    # One more at both ends, for the neighbours.
    near = [lag(x, j) for j in range(low - 1, high + 2)]
    top = max(near[1:-1])
    if top <= 0:
        return [0]
    for i in range(1, len(near) - 1):
        if near[i] >= near[i - 1] and near[i] >= near[i + 1] and 8 * near[i] >= 7 * top:
            return [low - 1 + i]
    return [0]


def ear(bands, hop, most, said, coefs, x, y, z):
    """0 and what an ear tells of three pushes; -2 alone unless bands is 1 to 33 and hop 1 to 4096."""
    if bands < 1 or bands > 33 or hop < 1 or hop > 4096:
        return [REFUSED]
    listener = Ear(bands, hop, coefs)
    answer = [0]
    for pushed in (x, y, z):
        answer.extend(listener.push(said, pushed, most))
    return answer


def way(n, m, w, band, a, b):
    """How many pairs the cheapest way has, what it costs, and its pairs; -2 alone for sizes that are out of bounds."""
    if w < 1 or w > 64 or n < 1 or n > 512 or m < 1 or m > 512 or band < 1:
        return [REFUSED]
    costs = way_costs(band, frames_of(w, n, a), frames_of(w, m, b))
    pairs = way_back(costs)
    return [len(pairs), costs[n - 1][m - 1]] + [65536 * i + j for i, j in pairs]


def period(low, high, news):
    """The first j from low to high with the greatest lag, alone; 0 for a low or high that is out of bounds."""
    if low < 1 or low > high or high >= len(news):
        return [0]
    cut = [min(65535, number) for number in news]
    sums = [lag(cut, j) for j in range(low, high + 1)]
    return [low + sums.index(max(sums))]


def best_before(spell, stiff, brought, t):
    """The most that a beat before place t brings it, and the gap between; 0 and 0 where t is better the first."""
    best = 0
    best_gap = 0
    for gap in range((spell + 1) // 2, min(2 * spell, t) + 1):
        gain = brought[t - gap] - stiff * abs(gap - spell)
        # Only more than the best up to now counts, so the shortest gap of those as good is kept.
        if gain > best:
            best = gain
            best_gap = gap
    return (best, best_gap)


def beats_back(brought, gaps):
    """The places of the beats, back from the first place that brings the most; in order."""
    if not brought:
        return []
    place = brought.index(max(brought))
    places = [place]
    while gaps[place] > 0:
        place = place - gaps[place]
        places.append(place)
    return list(reversed(places))


def beats(spell, stiff, news):
    """How many beats there are, and their places; -2 alone for numbers that are out of bounds."""
    if spell < 1 or spell > 1024 or stiff > 65535 or len(news) > 4096:
        return [REFUSED]
    brought = []
    gaps = []
    for t in range(len(news)):
        before = best_before(spell, stiff, brought, t)
        brought.append(news[t] + before[0])
        gaps.append(before[1])
    places = beats_back(brought, gaps)
    return [len(places)] + places


def fold(bands, first, louds):
    """0 and the levels' sums for each of twelve notes; -2 alone unless bands is 1 to 64."""
    if bands < 1 or bands > 64:
        return [REFUSED]
    notes = [0] * 12
    for i, loud in enumerate(louds):
        note = (first + i % bands) % 12
        notes[note] = notes[note] + loud
    return [0] + notes


def key_fit(profile, keynote, h):
    """How well h fits the profile on this keynote."""
    total = sum(profile)
    return sum([h[(keynote + i) % 12] * (12 * part - total) for i, part in enumerate(profile)])


def key(h):
    """The first key that fits h best, alone: 0 to 11 by the first profile, 12 to 23 by the second."""
    fits = [key_fit(FIRST_PROFILE, keynote, h) for keynote in range(12)]
    fits.extend([key_fit(SECOND_PROFILE, keynote, h) for keynote in range(12)])
    return [fits.index(max(fits))]
