"""Samples read from bytes, and rows of samples worked on together."""

SAMPLE_LEAST = -32768
SAMPLE_MOST = 32767
REFUSED = -2

# How many bytes a sample of each kind has.
SAMPLE_BYTES = (1, 2, 3, 4, 2)


def held(number):
    """The sample that is nearest to the number."""
    return max(SAMPLE_LEAST, min(SAMPLE_MOST, number))


def signed(octets):
    """The number with sign that the bytes make, the highest first."""
    number = octets[0]
    # The sign is the highest byte's alone, so no power of 256 is needed for it.
    if number > 127:
        number = number - 256
    for octet in octets[1:]:
        number = number * 256 + octet
    return number


def sample_of(kind, octets):
    """The sample that the bytes of one sample of this kind make."""
    if kind == 0:
        return 256 * octets[0] - 32768
    if kind == 4:
        return signed(octets)
    number = signed(list(reversed(octets)))
    if kind == 2:
        return held((number + 128) // 256)
    if kind == 3:
        return held((number + 32768) // 65536)
    return number


def samples(kind, sides, n, bytes_in):
    """0 and the n samples that the bytes make; -2 alone for an unknown kind or number of sides."""
    if kind < 0 or kind > 4 or sides < 1 or sides > 2:
        return [REFUSED]
    size = SAMPLE_BYTES[kind]
    answer = [0]
    for i in range(n):
        start = i * sides * size
        sample = sample_of(kind, bytes_in[start:start + size])
        if sides == 2:
            other = sample_of(kind, bytes_in[start + size:start + 2 * size])
            # Each side is a sample, already held, before the two are brought together.
            sample = (sample + other) // 2
        answer.append(sample)
    return answer


def signed_like(x, y):
    """x with the sign of y put on it, held since -(-32768) is no sample."""
    if y < 0:
        return held(-x)
    if y == 0:
        return 0
    return x


def combined(op, x, y):
    """What two samples become under an op from 0 to 7."""
    if op == 0:
        return held(x + y)
    if op == 1:
        return held(x - y)
    if op == 2:
        return held((x * y + 16384) // 32768)
    if op == 3:
        return (x + y + 1) // 2
    if op == 4:
        return max(x, y)
    if op == 5:
        return min(x, y)
    if op == 6:
        return held(abs(x - y))
    return signed_like(x, y)


def row(op, a, b):
    """0 and the row that a becomes with b; -2 alone for an unknown op."""
    if op < 0 or op > 7:
        return [REFUSED]
    return [0] + [combined(op, x, y) for x, y in zip(a, b)]


def sum_of(a, b):
    """The sum of a's numbers by b's, alone."""
    return [sum([x * y for x, y in zip(a, b)])]


def turns(x):
    """How often one number is below 0 and the next isn't, or the other way round, alone."""
    count = 0
    for i in range(1, len(x)):
        if (x[i - 1] < 0) != (x[i] < 0):
            count = count + 1
    return [count]
