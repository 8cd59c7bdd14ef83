"""Promise 4: worst."""

import unittest

from evensteps.tunings import worst
from helper import (
    BEYOND_POWERS, BEYOND_STEPS, FIFTH, GREATEST, LEAST, OCTAVE, SYNTONIC_COMMA, THIRD, UNISON,
    joined, off, ratio, spread_intervals, turned,
)

SEVENTH = [-2, 0, 0, 1, 0, 0]

# n, then two intervals' powers of 3, 5, 7, 11, 13, the second a little farther off: for each of these n the pair
# that a search over all powers found off nearest to alike but not alike (the first: some 3 in 10 ** 10 of a step).
NEARLY_ALIKE = (
    (53, (8, 8, -2, 5, 6), (7, -7, 4, 2, 8)),
    (56, (3, -6, 2, 1, -8), (5, -8, 6, 8, -5)),
    (64, (4, -8, -8, -5, 4), (8, -7, 8, -2, 4)),
    (1, (3, -5, 6, 3, -8), (4, 6, 7, 7, -7)),
    (2, (3, -5, 6, 3, -8), (4, 6, 7, 7, -7)),
    (25, (3, -6, 8, 0, 8), (8, 8, 7, -3, -6)),
    (13, (7, 0, 8, 8, -8), (5, -8, -8, -5, -8)),
    (3, (3, 5, -8, 8, 0), (4, 8, 8, 8, -4)),
    (60, (5, -3, 8, 7, 8), (8, -8, 0, -6, -4)),
    (4, (4, 6, 7, 7, -7), (3, -5, 6, 3, -8)),
)


def of(n, *intervals):
    return worst(n, joined(intervals))


def first_farthest(n, intervals):
    offs = [off(n, e) for e in intervals]
    return offs.index(max(offs))


class Farthest(unittest.TestCase):
    def test_one_interval(self):
        for e in (FIFTH, turned(FIFTH), UNISON, OCTAVE, [8] * 6, [-8] * 6):
            for n in (1, 12, 64):
                self.assertEqual(of(n, e), [0])

    def test_several(self):
        self.assertEqual(of(12, FIFTH, THIRD), [1])
        self.assertEqual(of(12, THIRD, FIFTH), [0])
        self.assertEqual(of(12, OCTAVE, FIFTH, THIRD, SEVENTH), [3])
        self.assertEqual(of(12, OCTAVE, FIFTH, SEVENTH, THIRD), [2])
        self.assertEqual(of(31, FIFTH, THIRD, SEVENTH), [0])

    def test_above_or_below_unison(self):
        self.assertEqual(of(12, turned(FIFTH), THIRD), [1])
        self.assertEqual(of(12, FIFTH, turned(THIRD)), [1])
        self.assertEqual(of(12, turned(THIRD), turned(FIFTH), UNISON), [0])

    def test_off_above_or_below_the_nearest_step(self):
        # By 12 a fifth is some 2 cents above its nearest step, a third some 14 below, 11/8 some 49 below
        # and 13/8 some 41 above it.
        eleventh = [-3, 0, 0, 0, 1, 0]
        thirteenth = [-3, 0, 0, 0, 0, 1]
        self.assertEqual(of(12, FIFTH, THIRD, eleventh, thirteenth), [2])
        self.assertEqual(of(12, FIFTH, THIRD, thirteenth), [2])
        self.assertEqual(of(12, thirteenth, THIRD), [0])
        self.assertEqual(of(12, THIRD, FIFTH, turned(thirteenth)), [2])

    def test_how_far_off_not_how_large(self):
        self.assertEqual(of(12, [8, 0, 0, 0, 0, 0], SYNTONIC_COMMA), [1])
        self.assertEqual(of(12, [0, 8, 0, 0, 0, 0], THIRD), [0])
        self.assertEqual(of(12, [0, 7, 0, 0, 0, 0], THIRD), [1])

    def test_unison_is_not_off(self):
        self.assertEqual(of(12, UNISON, FIFTH), [1])
        self.assertEqual(of(12, FIFTH, UNISON), [0])
        self.assertEqual(of(12, UNISON, UNISON), [0])

    def test_nearest_step_is_of_the_interval_itself(self):
        # By 4 two fifths lie between steps 4 and 5 and are nearer to 5, though one is nearest to 2.
        self.assertEqual(of(4, [-2, 2, 0, 0, 0, 0], FIFTH), [1])

    def test_sixteen(self):
        for place in range(16):
            intervals = 16 * [FIFTH]
            intervals[place] = THIRD
            self.assertEqual(of(12, *intervals), [place])

    def test_ends_of_the_powers(self):
        ends = [[8 if signs >> place & 1 else -8 for place in range(6)] for signs in range(64)]
        for start in range(0, 64, 16):
            intervals = ends[start:start + 16]
            for n in (1, 2, 63, 64):
                self.assertEqual(of(n, *intervals), [first_farthest(n, intervals)], (start, n))

    def test_every_n(self):
        intervals = [FIFTH, THIRD, SEVENTH, [-3, 0, 0, 0, 1, 0], [-3, 0, 0, 0, 0, 1], [1, 1, -1, 0, 0, 0]]
        for n in range(1, 65):
            self.assertEqual(of(n, *intervals), [first_farthest(n, intervals)], n)

    def test_spread_over_all(self):
        for seed in range(200):
            intervals = spread_intervals(seed, seed % 16 + 1)
            n = seed * 11 % 64 + 1
            self.assertEqual(of(n, *intervals), [first_farthest(n, intervals)], seed)

    def test_nearly_alike(self):
        for n, nearer, farther in NEARLY_ALIKE:
            for octaves in (-8, 0, 8):
                less = [octaves] + list(nearer)
                more = [-octaves] + list(farther)
                self.assertLess(off(n, less), off(n, more))
                for one in (less, turned(less)):
                    for other in (more, turned(more)):
                        self.assertEqual(of(n, one, other), [1])
                        self.assertEqual(of(n, other, one), [0])

    def test_by_fractions(self):
        for n, nearer, farther in NEARLY_ALIKE:
            sizes = []
            for odd in (nearer, farther):
                size = ratio([0] + list(odd)) ** n
                while size * size > 2:
                    size /= 2
                while size * size * 2 < 1:
                    size *= 2
                sizes.append(max(size, 1 / size))
            self.assertLess(sizes[0], sizes[1])


class Alike(unittest.TestCase):
    def test_same_interval_twice(self):
        for n in (1, 12, 64):
            for e in (FIFTH, turned(THIRD), [8] * 6, [-8] * 6, UNISON):
                self.assertEqual(of(n, e, e), [0])
                self.assertEqual(of(n, *(16 * [e])), [0])
        self.assertEqual(of(12, FIFTH, THIRD, THIRD, FIFTH, THIRD), [1])

    def test_turned_upside_down(self):
        self.assertEqual(of(12, FIFTH, turned(FIFTH)), [0])
        self.assertEqual(of(12, turned(FIFTH), FIFTH), [0])
        self.assertEqual(of(12, FIFTH, turned(THIRD), THIRD), [1])
        for e in spread_intervals(5, 60):
            for n in (1, 12, 53, 64):
                self.assertEqual(of(n, e, turned(e)), [0])
                self.assertEqual(of(n, turned(e), e), [0])

    def test_octaves_apart(self):
        for e in spread_intervals(6, 60):
            for n in (1, 12, 53, 64):
                low = [-8] + e[1:]
                high = [8] + e[1:]
                self.assertEqual(of(n, low, high, turned(low), turned(high)), [0])
                self.assertEqual(of(n, turned(high), turned(low), high, low), [0])

    def test_all_octaves(self):
        octaves = [[power, 0, 0, 0, 0, 0] for power in range(-8, 8)]
        for n in range(1, 65):
            self.assertEqual(of(n, *octaves), [0])
            self.assertEqual(of(n, *reversed(octaves)), [0])


class OutOfRange(unittest.TestCase):
    def test_no_interval(self):
        for n in (1, 12, 64, 0, 65):
            self.assertEqual(worst(n, []), [-2])

    def test_n(self):
        for n in BEYOND_STEPS:
            self.assertEqual(of(n, FIFTH), [-2], n)
            self.assertEqual(of(n, *(16 * [FIFTH])), [-2], n)
        for n in (1, 64):
            self.assertEqual(of(n, FIFTH), [0])

    def test_each_power_in_the_first_and_the_last_interval(self):
        for many in (1, 2, 16):
            for place in list(range(6)) + list(range(6 * many - 6, 6 * many)):
                for power in BEYOND_POWERS:
                    l = joined(many * [FIFTH])
                    l[place] = power
                    self.assertEqual(worst(12, l), [-2], (many, place, power))

    def test_each_power_at_its_ends(self):
        for place in range(12):
            for power in (-8, 8):
                l = joined([FIFTH, THIRD])
                l[place] = power
                expected = first_farthest(12, [l[:6], l[6:]])
                self.assertEqual(worst(12, l), [expected], (place, power))

    def test_both(self):
        self.assertEqual(worst(0, 6 * [9]), [-2])
        self.assertEqual(worst(LEAST, 96 * [GREATEST]), [-2])

    def test_more_than_sixteen_intervals(self):
        self.assertEqual(of(12, *(17 * [FIFTH])), [-2])


if __name__ == "__main__":
    unittest.main()
