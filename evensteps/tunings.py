"""Intervals by the powers of their primes, the equal steps that come nearest to them, and scales of them.

Every function of the interface gives back one list: an answer's numbers, or a refusal's number alone.
"""

PRIMES = (2, 3, 5, 7, 11, 13)
UNISON = (0, 0, 0, 0, 0, 0)
OCTAVE = (1, 0, 0, 0, 0, 0)

MORE_THAN_MOST = -1
OUT_OF_RANGE = -2
OTHER_PRIME = -3
BY_NONE = -3
NOT_A_RATIO = -100

MOST_BYTES = 64
MOST_DIGITS = 18
MOST_STEPS = 64
MOST_INTERVALS = 16
MOST_POWER = 8
MOST_TONES = 64

SLASH = 47
DIGIT_ZERO = 48
DIGIT_NINE = 57


def read(t):
    """The powers of the interval that the text t tells."""
    if len(t) > MOST_BYTES:
        return [OUT_OF_RANGE]
    parts = parts_between_slashes(t)
    if len(parts) > 2 or not all([is_number(part) for part in parts]):
        return [NOT_A_RATIO]
    top = number_told(parts[0])
    bottom = number_told(parts[1]) if len(parts) == 2 else 1
    # What is alike on both sides of the slash cancels: 34/17 is the ratio 2/1 and has no other prime.
    if without_primes(top) != without_primes(bottom):
        return [OTHER_PRIME]
    return [0] + [times_within(top, prime) - times_within(bottom, prime) for prime in PRIMES]


def step(n, e):
    """The step of n equal ones in an octave that is nearest to the interval e."""
    if not steps_in_range(n) or not powers_in_range(e):
        return [OUT_OF_RANGE]
    return [0, nearest_step(n, e)]


def val(n):
    """The nearest steps of the six primes by n."""
    if not steps_in_range(n):
        return [OUT_OF_RANGE]
    return [0] + val_numbers(n)


def worst(n, l):
    """Which of the intervals in l is farthest off its nearest step by n."""
    if not steps_in_range(n) or not intervals_in_range(l):
        return [OUT_OF_RANGE]
    return [first_largest([off_by(n, e) for e in intervals_of(l)])]


def best(a, z, l):
    """The first n from a to z by which the farthest off of the intervals in l is least far off."""
    if not span_in_range(a, z) or not intervals_in_range(l):
        return [OUT_OF_RANGE]
    intervals = intervals_of(l)
    chosen = a
    least = farthest_off(a, intervals)
    for n in range(a + 1, z + 1):
        off = farthest_off(n, intervals)
        # Each is n times too much, by its own n: taken times the other's n, the two are alike in that.
        if is_below(taken_times(chosen, off), taken_times(n, least)):
            chosen = n
            least = off
    return [chosen]


def vanish(a, z, e):
    """The first n from a to z by which the interval e is tempered to 0."""
    if not span_in_range(a, z) or not powers_in_range(e):
        return [OUT_OF_RANGE]
    for n in range(a, z + 1):
        if tempered(n, e) == 0:
            return [n]
    return [BY_NONE]


def scale(c, most, e):
    """The c tones of the interval e, ascending."""
    if not scale_in_range(c, most, e):
        return [OUT_OF_RANGE]
    return told_up_to(most, tones_of(c, e))


def kinds(c, most, e):
    """The steps that are different in the scale of c tones of the interval e, ascending."""
    if not scale_in_range(c, most, e):
        return [OUT_OF_RANGE]
    return told_up_to(most, ascending(different(steps_between(tones_of(c, e)))))


def parts_between_slashes(t):
    parts = []
    part = []
    for byte in t:
        if byte == SLASH:
            parts.append(part)
            part = []
        else:
            part.append(byte)
    parts.append(part)
    return parts


def is_number(part):
    if len(part) < 1 or len(part) > MOST_DIGITS or part[0] == DIGIT_ZERO:
        return False
    return all([DIGIT_ZERO <= byte <= DIGIT_NINE for byte in part])


def number_told(part):
    number = 0
    for byte in part:
        number = number * 10 + byte - DIGIT_ZERO
    return number


def times_within(number, prime):
    """How many times the prime divides the number, which is above 0."""
    times = 0
    while number % prime == 0:
        number = number // prime
        times += 1
    return times


def without_primes(number):
    """What is left of the number, which is above 0, once the six primes are divided out."""
    for prime in PRIMES:
        while number % prime == 0:
            number = number // prime
    return number


def steps_in_range(n):
    return 1 <= n <= MOST_STEPS


def span_in_range(a, z):
    return 1 <= a <= z <= MOST_STEPS


def powers_in_range(e):
    return all([-MOST_POWER <= power <= MOST_POWER for power in e])


def intervals_in_range(l):
    return 1 <= len(l) // len(PRIMES) <= MOST_INTERVALS and powers_in_range(l)


def scale_in_range(c, most, e):
    if c < 1 or c > MOST_TONES or most < 0 or most > MOST_TONES:
        return False
    return powers_in_range(e) and not only_octaves(e)


def only_octaves(e):
    return all([power == 0 for power in e[1:]])


def intervals_of(l):
    return [l[start:start + len(PRIMES)] for start in range(0, len(l), len(PRIMES))]


def repeated(factor, times):
    """The factor multiplied by itself; 1 if times is 0 or below."""
    if times <= 0:
        return 1
    # By halves, since the powers that are compared run into thousands.
    half = repeated(factor, times // 2)
    if times % 2 == 1:
        return half * half * factor
    return half * half


def top_of(e):
    product = 1
    for prime, power in zip(PRIMES, e):
        product = product * repeated(prime, power)
    return product


def bottom_of(e):
    return top_of([-power for power in e])


def is_below(e, other):
    between = difference(e, other)
    return top_of(between) < bottom_of(between)


def difference(e, other):
    """What is left of e once the other interval is taken from it."""
    return [power - taken for power, taken in zip(e, other)]


def taken_times(times, e):
    return [times * power for power in e]


def octaves_within(e):
    """How many octaves to take from e so that from 1/1 to below 2/1 is left; below 0 if e is below 1/1."""
    top = top_of(e)
    bottom = bottom_of(e)
    octaves = 0
    while top >= 2 * bottom:
        bottom = 2 * bottom
        octaves += 1
    while top < bottom:
        top = 2 * top
        octaves -= 1
    return octaves


def less_octaves(e, octaves):
    return [e[0] - octaves] + e[1:]


def nearest_step(n, e):
    octaves = octaves_within(e)
    rest = less_octaves(e, octaves)
    # k + 1 is nearer than k just if n times the logarithm is above k + 1/2. Doubled, that is a whole
    # number: the ratio to 2 n is above 2 to 2 k + 1. The two are never equal, since 2 to 2 k + 1 is
    # no ratio's square, so there is no tie to settle.
    top = repeated(top_of(rest), 2 * n)
    bottom = repeated(bottom_of(rest), 2 * n)
    k = 0
    while top > 2 * bottom:
        bottom = 4 * bottom
        k += 1
    return n * octaves + k


def val_numbers(n):
    return [nearest_step(n, prime_alone(prime)) for prime in PRIMES]


def tempered(n, e):
    return sum([power * number for power, number in zip(e, val_numbers(n))])


def prime_alone(prime):
    """The interval of the prime to 1."""
    return [1 if other == prime else 0 for other in PRIMES]


def off_by(n, e):
    """How far e is off by n, times n, as an interval that is not below 1/1.

    The interval taken n times less one octave for each step is, told in octaves, just the difference in
    steps. It is turned round if it is below 1/1, as only how far it is off counts.
    """
    off = less_octaves(taken_times(n, e), nearest_step(n, e))
    if is_below(off, UNISON):
        return difference(UNISON, off)
    return off


def farthest_off(n, intervals):
    offs = [off_by(n, e) for e in intervals]
    return offs[first_largest(offs)]


def first_largest(intervals):
    lowest = lowest_powers(intervals)
    sizes = [size_above(lowest, e) for e in intervals]
    return sizes.index(max(sizes))


def lowest_powers(intervals):
    """For each prime the lowest power that one of the intervals has."""
    return [min([e[place] for e in intervals]) for place in range(len(PRIMES))]


def size_above(lowest, e):
    """The whole number that e is a multiple of the lowest powers by.

    Taken above the same lowest powers, such numbers are to one another as the intervals' ratios are, so
    intervals are held against one another by whole numbers alone.
    """
    return top_of(difference(e, lowest))


def ascending(intervals):
    lowest = lowest_powers(intervals)
    return sorted(intervals, key=lambda e: size_above(lowest, e))


def tones_of(c, e):
    tones = []
    tone = list(UNISON)
    for turn in range(c):
        tones.append(tone)
        tone = within_octave(together(tone, e))
    return ascending(tones)


def together(e, other):
    """The two intervals one on another."""
    return [power + more for power, more in zip(e, other)]


def within_octave(e):
    return less_octaves(e, octaves_within(e))


def steps_between(tones):
    """From each of the ascending tones to the next, and from the last to the octave."""
    return [difference(upper, lower) for lower, upper in zip(tones, tones[1:] + [list(OCTAVE)])]


def different(intervals):
    found = []
    for e in intervals:
        if e not in found:
            found.append(e)
    return found


def told_up_to(most, intervals):
    if len(intervals) > most:
        return [MORE_THAN_MOST]
    answer = [len(intervals)]
    for e in intervals:
        answer.extend(e)
    return answer
