"""What several tests share: the ends of what is handed in, and another way to the same answers, by long decimals."""

import decimal
from fractions import Fraction

decimal.getcontext().prec = 80

PRIMES = (2, 3, 5, 7, 11, 13)
LEAST = -2147483648
GREATEST = 2147483647
BEYOND_POWERS = (-9, 9, 100, -100, LEAST, GREATEST)
BEYOND_STEPS = (0, 65, -1, -12, 66, 128, LEAST, GREATEST)
BEYOND_SPANS = (
    (0, 12), (65, 65), (-1, 12), (LEAST, 12), (GREATEST, 12), (0, 0), (65, 64),
    (12, 11), (64, 1), (2, 1), (12, 0), (12, -1), (12, LEAST), (1, 65), (64, 65), (12, GREATEST),
    (LEAST, LEAST), (LEAST, GREATEST), (GREATEST, LEAST), (GREATEST, GREATEST),
)

# c and most, one of them or both out of range.
BEYOND_SCALES = (
    (0, 64), (65, 64), (-1, 64), (LEAST, 64), (GREATEST, 64), (0, 0), (65, 0), (66, 64),
    (12, -1), (12, 65), (12, LEAST), (12, GREATEST), (1, -1), (64, 65), (64, -1), (12, 66),
    (0, -1), (65, 65), (LEAST, LEAST), (LEAST, GREATEST), (GREATEST, LEAST), (GREATEST, GREATEST),
)

# How many times, and the powers of 3, 5, 7, 11, 13 of the interval that a search over all powers found nearest to
# octaves when taken as many times, so that tones of its scale lie near to one another (the first: some 4 in 10 ** 8
# of an octave).
NEAR_TO_OCTAVES = (
    (27, (5, 6, -7, -8, -8)),
    (49, (1, 5, 2, -4, -5)),
    (11, (8, -2, -3, -3, 2)),
    (39, (6, -6, 3, -7, -5)),
    (61, (5, 8, 2, 3, -7)),
    (4, (5, -4, -6, 6, 1)),
    (1, (2, 4, 4, 7, -7)),
)

UNISON = [0, 0, 0, 0, 0, 0]
OCTAVE = [1, 0, 0, 0, 0, 0]
FIFTH = [-1, 1, 0, 0, 0, 0]
THIRD = [-2, 0, 1, 0, 0, 0]
SYNTONIC_COMMA = [-4, 4, -1, 0, 0, 0]

LOGARITHMS = [decimal.Decimal(prime).ln() / decimal.Decimal(2).ln() for prime in PRIMES]


def ratio(e):
    product = Fraction(1)
    for prime, power in zip(PRIMES, e):
        product *= Fraction(prime) ** power
    return product


def octaves(e):
    return sum(power * logarithm for power, logarithm in zip(e, LOGARITHMS))


def nearest(n, e):
    return int((n * octaves(e)).to_integral_value())


def off(n, e):
    """How far e is off by n: what differs at all differs far ahead of the 60th place, the rest is alike."""
    return round(abs(n * octaves(e) - nearest(n, e)) / n, 60)


def scale_by_fractions(c, e):
    """The tones of the scale, each with its ratio, ascending."""
    tones = []
    for times in range(c):
        size = ratio(e) ** times
        powers = [times * power for power in e]
        while size >= 2:
            size /= 2
            powers[0] -= 1
        while size < 1:
            size *= 2
            powers[0] += 1
        tones.append((size, powers))
    return sorted(tones)


def kinds_by_fractions(c, e):
    """The different steps of the scale, each with its ratio, ascending."""
    tones = scale_by_fractions(c, e) + [(Fraction(2), OCTAVE)]
    steps = {}
    for (lower, taken), (upper, powers) in zip(tones, tones[1:]):
        steps[upper / lower] = [power - less for power, less in zip(powers, taken)]
    return sorted(steps.items())


def told(rows):
    return [len(rows)] + joined([powers for _, powers in rows])


def turned(e):
    return [-power for power in e]


def joined(intervals):
    return [power for e in intervals for power in e]


def alone(place, power):
    """The interval of one prime's power."""
    return [power if other == place else 0 for other in range(6)]


def numbers(seed, sizes, count):
    """As many rows of numbers from 0 to below their sizes, spread over all of them, the same each time."""
    state = seed
    for _ in range(count):
        row = []
        for size in sizes:
            state = (state * 6364136223846793005 + 1442695040888963407) % 2 ** 64
            row.append((state >> 33) % size)
        yield row


def spread(count):
    """As many n with an interval each, spread over all that may be handed in."""
    for n, *powers in numbers(1, [64] + 6 * [17], count):
        yield n + 1, [power - 8 for power in powers]


def spread_intervals(seed, many):
    """As many intervals, spread over all that may be handed in."""
    return [[power - 8 for power in row] for row in numbers(seed, 6 * [17], many)]
