"""Promise 5: best."""

import unittest

from evensteps.tunings import best
from helper import (
    BEYOND_POWERS, BEYOND_SPANS, FIFTH, GREATEST, LEAST, OCTAVE, SYNTONIC_COMMA, THIRD, UNISON,
    joined, off, spread_intervals, turned,
)

SEVENTH = [-2, 0, 0, 1, 0, 0]
MINOR_THIRD = [1, 1, -1, 0, 0, 0]

# n, then two intervals' powers of 3, 5, 7, 11, 13: by n the first is farther off, by n + 1 the second, and these
# two are off nearly alike (the first: some 1 in 10 ** 12 of an octave). They came of a search that held n against
# n + 1 alone and each interval against its two neighbours alone, so there may be pairs that are nearer to alike.
NEARLY_ALIKE = (
    (31, (8, 8, -6, -7, -3), (8, 7, -3, -7, 4)),
    (53, (7, 8, -8, -7, -3), (8, 8, 5, -6, -4)),
    (60, (1, -3, 4, -4, -8), (8, -6, 0, -7, -4)),
    (37, (8, 8, 1, -7, 8), (8, 7, 7, 7, 8)),
    (58, (0, 2, 4, 8, 8), (3, 7, -7, 7, -5)),
    (43, (1, 8, -6, -6, -5), (6, 6, 8, -3, 8)),
    (40, (7, 4, 7, 8, 8), (8, 7, -3, 8, -3)),
    (48, (8, -7, -7, 1, -8), (7, -8, -8, -5, 1)),
    (63, (4, -7, -4, -6, 8), (5, -1, -8, 2, 8)),
    (52, (1, -8, 8, 2, 8), (2, 7, 2, 5, 6)),
)


def of(a, z, *intervals):
    return best(a, z, joined(intervals))


def first_best(a, z, intervals):
    farthest = [max(off(n, e) for e in intervals) for n in range(a, z + 1)]
    return a + farthest.index(min(farthest))


class LeastFarOff(unittest.TestCase):
    def test_one_interval(self):
        self.assertEqual(of(1, 64, FIFTH), [53])
        self.assertEqual(of(1, 52, FIFTH), [41])
        self.assertEqual(of(1, 40, FIFTH), [29])
        self.assertEqual(of(1, 28, FIFTH), [12])
        self.assertEqual(of(1, 11, FIFTH), [7])
        self.assertEqual(of(1, 64, turned(FIFTH)), [53])

    def test_several(self):
        self.assertEqual(of(1, 64, FIFTH, THIRD), [53])
        self.assertEqual(of(1, 52, FIFTH, THIRD), [34])
        self.assertEqual(of(1, 31, FIFTH, THIRD), [31])
        self.assertEqual(of(5, 24, FIFTH, THIRD), [22])
        self.assertEqual(of(1, 12, FIFTH, THIRD, MINOR_THIRD), [12])
        self.assertEqual(of(1, 31, FIFTH, THIRD, SEVENTH), [31])

    def test_order_of_the_intervals_does_not_count(self):
        for a, z in ((1, 12), (5, 24), (1, 64)):
            self.assertEqual(of(a, z, FIFTH, THIRD, SEVENTH), of(a, z, SEVENTH, THIRD, FIFTH))

    def test_not_the_first_and_not_the_last(self):
        self.assertEqual(of(10, 14, FIFTH), [12])
        self.assertEqual(of(11, 13, FIFTH), [12])
        self.assertEqual(of(50, 60, FIFTH), [53])

    def test_the_first_and_the_last(self):
        self.assertEqual(of(12, 20, FIFTH), [12])
        self.assertEqual(of(8, 12, FIFTH), [12])

    def test_a_at_z(self):
        for n in range(1, 65):
            self.assertEqual(of(n, n, FIFTH, THIRD), [n])
            self.assertEqual(of(n, n, [8] * 6, [-8] * 6), [n])

    def test_off_is_divided_by_n(self):
        # In steps a fifth is off by some 0.075 by 5 and 0.095 by 7, by some 0.020 by 12 and 0.036 by 29; in
        # octaves 7 and 29 are the better.
        self.assertEqual(of(5, 7, FIFTH), [7])
        self.assertEqual(of(12, 30, FIFTH), [29])

    def test_farthest_off_counts_and_not_all_together(self):
        # By 12 they are off by some 2, 14 and 31 cents, by 10 by some 18, 26 and 9.
        self.assertEqual(of(5, 12, FIFTH, THIRD, SEVENTH), [10])

    def test_sixteen(self):
        for place in range(16):
            intervals = 16 * [FIFTH]
            intervals[place] = THIRD
            self.assertEqual(of(5, 24, *intervals), [22])
        self.assertEqual(of(5, 24, *(16 * [FIFTH])), [12])

    def test_every_range(self):
        intervals = [FIFTH, THIRD, SEVENTH]
        for a in range(1, 65, 3):
            for z in range(a, 65, 4):
                self.assertEqual(of(a, z, *intervals), [first_best(a, z, intervals)], (a, z))

    def test_ends_of_the_powers(self):
        ends = [[8 if signs >> place & 1 else -8 for place in range(6)] for signs in range(64)]
        for start in range(0, 64, 16):
            intervals = ends[start:start + 16]
            self.assertEqual(of(1, 64, *intervals), [first_best(1, 64, intervals)], start)
        for e in ends[::9]:
            self.assertEqual(of(1, 64, e), [first_best(1, 64, [e])], e)

    def test_spread_over_all(self):
        for seed in range(30):
            intervals = spread_intervals(seed, seed * 7 % 16 + 1)
            a = seed * 13 % 40 + 1
            self.assertEqual(of(a, 64, *intervals), [first_best(a, 64, intervals)], seed)
        for seed in range(100, 110):
            intervals = spread_intervals(seed, 1)
            self.assertEqual(of(1, 64, *intervals), [first_best(1, 64, intervals)], seed)

    def test_nearly_alike(self):
        for n, first, second in NEARLY_ALIKE:
            one = [8] + list(first)
            other = [-8] + list(second)
            self.assertLess(off(n, other), off(n, one))
            self.assertLess(off(n + 1, one), off(n + 1, other))
            self.assertNotEqual(off(n, one), off(n + 1, other))
            expected = n if off(n, one) < off(n + 1, other) else n + 1
            for intervals in ((one, other), (other, one), (turned(one), other), (turned(other), turned(one))):
                self.assertEqual(of(n, n + 1, *intervals), [expected], n)


class Alike(unittest.TestCase):
    def test_octaves_alone(self):
        for a, z in ((1, 64), (1, 2), (12, 64), (63, 64), (64, 64)):
            self.assertEqual(of(a, z, OCTAVE), [a])
            self.assertEqual(of(a, z, UNISON), [a])
            self.assertEqual(of(a, z, OCTAVE, UNISON, [-8, 0, 0, 0, 0, 0], [8, 0, 0, 0, 0, 0]), [a])

    def test_same_step_by_twice_as_many(self):
        # 7 steps of 12 are 14 of 24 and 21 of 36, so by each of these a fifth is off by the same.
        self.assertEqual(of(12, 24, FIFTH), [12])
        self.assertEqual(of(13, 24, FIFTH), [24])
        self.assertEqual(of(24, 28, FIFTH), [24])
        self.assertEqual(of(24, 28, FIFTH, [2, -1, 0, 0, 0, 0]), [24])

    def test_comma_that_rounds_to_no_step(self):
        # Nearest to no step by either n, so off by itself by both.
        self.assertEqual(of(1, 20, SYNTONIC_COMMA), [1])
        self.assertEqual(of(5, 20, SYNTONIC_COMMA), [5])


class OutOfRange(unittest.TestCase):
    def test_no_interval(self):
        for a, z in ((1, 64), (12, 12), (0, 65), (2, 1)):
            self.assertEqual(best(a, z, []), [-2])

    def test_range(self):
        for a, z in BEYOND_SPANS:
            self.assertEqual(of(a, z, FIFTH), [-2], (a, z))
            self.assertEqual(of(a, z, *(16 * [FIFTH])), [-2], (a, z))

    def test_each_power_in_the_first_and_the_last_interval(self):
        for many in (1, 2, 16):
            for place in list(range(6)) + list(range(6 * many - 6, 6 * many)):
                for power in BEYOND_POWERS:
                    l = joined(many * [FIFTH])
                    l[place] = power
                    self.assertEqual(best(5, 24, l), [-2], (many, place, power))

    def test_each_power_at_its_ends(self):
        for place in range(12):
            for power in (-8, 8):
                l = joined([FIFTH, THIRD])
                l[place] = power
                self.assertEqual(best(5, 24, l), [first_best(5, 24, [l[:6], l[6:]])], (place, power))

    def test_several_at_once(self):
        self.assertEqual(best(0, 65, 6 * [9]), [-2])
        self.assertEqual(best(GREATEST, LEAST, 96 * [GREATEST]), [-2])

    def test_more_than_sixteen_intervals(self):
        self.assertEqual(of(5, 24, *(17 * [FIFTH])), [-2])


if __name__ == "__main__":
    unittest.main()
