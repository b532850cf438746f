"""What several of the calls share."""

SAMPLE_LEAST = -32768
SAMPLE_MOST = 32767


def held(number):
    """The sample that is nearest to the number."""
    if number < SAMPLE_LEAST:
        return SAMPLE_LEAST
    if number > SAMPLE_MOST:
        return SAMPLE_MOST
    return number


def bits_unlike(a, b):
    """How many bits of two words differ."""
    # Counted for all bits at once, in pairs, in fours, then in eights: a walk over 32 bits would take far longer.
    bits = a ^ b
    bits = (bits & 0x55555555) + ((bits >> 1) & 0x55555555)
    bits = (bits & 0x33333333) + ((bits >> 2) & 0x33333333)
    bits = (bits & 0x0F0F0F0F) + ((bits >> 4) & 0x0F0F0F0F)
    # The four counts are below 255 together, so they are what's left of the number when 255s are taken away.
    return bits % 255


def level_of(e):
    """The level of a sum of squares: four steps for each doubling, 0 of 0."""
    if e == 0:
        return 0
    k = e.bit_length() - 1
    return 4 * k + ((4 * e) >> k) - 4


def lag(x, j):
    """The sum of x's numbers, each by the one j places behind it."""
    return sum([p * q for p, q in zip(x, x[j:])])
