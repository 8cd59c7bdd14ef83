"""Promise 6: vanish."""

import unittest

from evensteps.tunings import step, val, vanish
from helper import (
    BEYOND_POWERS, BEYOND_SPANS, FIFTH, GREATEST, LEAST, OCTAVE, SYNTONIC_COMMA, UNISON,
    alone, nearest, spread_intervals, turned,
)

DIESIS = [7, 0, -3, 0, 0, 0]
WHOLE_TONE = [-3, 2, 0, 0, 0, 0]
LIMMA = [8, -5, 0, 0, 0, 0]


def first_vanishing(a, z, e):
    for n in range(a, z + 1):
        if sum(power * nearest(n, alone(place, 1)) for place, power in enumerate(e)) == 0:
            return n
    return -3


class FirstByWhichItVanishes(unittest.TestCase):
    def test_by_the_first(self):
        self.assertEqual(vanish(12, 64, SYNTONIC_COMMA), [12])
        self.assertEqual(vanish(5, 64, SYNTONIC_COMMA), [5])
        self.assertEqual(vanish(31, 53, SYNTONIC_COMMA), [31])

    def test_by_a_later_one(self):
        self.assertEqual(vanish(1, 64, SYNTONIC_COMMA), [5])
        self.assertEqual(vanish(8, 64, SYNTONIC_COMMA), [12])
        self.assertEqual(vanish(13, 64, SYNTONIC_COMMA), [19])
        self.assertEqual(vanish(1, 64, DIESIS), [3])
        self.assertEqual(vanish(13, 64, DIESIS), [15])
        self.assertEqual(vanish(3, 10, WHOLE_TONE), [4])

    def test_by_the_last(self):
        self.assertEqual(vanish(8, 12, SYNTONIC_COMMA), [12])
        self.assertEqual(vanish(58, 62, SYNTONIC_COMMA), [62])
        self.assertEqual(vanish(61, 64, [-5, 2, 2, -1, 0, 0]), [62])
        self.assertEqual(vanish(55, 60, [-5, 2, 2, -1, 0, 0]), [60])

    def test_by_none(self):
        self.assertEqual(vanish(8, 11, SYNTONIC_COMMA), [-3])
        self.assertEqual(vanish(63, 64, SYNTONIC_COMMA), [-3])
        self.assertEqual(vanish(5, 64, WHOLE_TONE), [-3])
        self.assertEqual(vanish(1, 64, FIFTH), [-3])
        self.assertEqual(vanish(1, 64, [8] * 6), [-3])
        self.assertEqual(vanish(1, 64, [-8] * 6), [-3])

    def test_turned_upside_down(self):
        self.assertEqual(vanish(1, 64, turned(SYNTONIC_COMMA)), [5])
        self.assertEqual(vanish(13, 64, turned(DIESIS)), [15])

    def test_unison_vanishes_by_all(self):
        for n in range(1, 65):
            self.assertEqual(vanish(n, n, UNISON), [n])
            self.assertEqual(vanish(n, 64, UNISON), [n])

    def test_octaves_never_vanish(self):
        for power in (-8, -1, 1, 8):
            self.assertEqual(vanish(1, 64, [power, 0, 0, 0, 0, 0]), [-3])
        self.assertEqual(vanish(1, 1, OCTAVE), [-3])
        self.assertEqual(vanish(64, 64, OCTAVE), [-3])

    def test_a_at_z(self):
        vanishing = [n for n in range(1, 65) if vanish(n, n, SYNTONIC_COMMA) == [n]]
        self.assertEqual(vanishing, [5, 7, 12, 19, 24, 26, 31, 36, 38, 43, 45, 50, 55, 57, 62])
        for n in range(1, 65):
            if n not in vanishing:
                self.assertEqual(vanish(n, n, SYNTONIC_COMMA), [-3])

    def test_tempered_by_the_val_and_not_by_its_own_nearest_step(self):
        # By 6 the comma's own nearest step is 0, but by the val it is tempered to -4 * 6 + 4 * 10 - 14.
        self.assertEqual(step(6, SYNTONIC_COMMA), [0, 0])
        self.assertEqual(val(6)[1:4], [6, 10, 14])
        self.assertEqual(vanish(6, 6, SYNTONIC_COMMA), [-3])
        # By 5 the limma vanishes; by 20 its own nearest step is 2, but by the val it is tempered to 0.
        self.assertEqual(step(20, LIMMA), [0, 2])
        self.assertEqual(vanish(20, 20, LIMMA), [20])

    def test_each_prime_counts(self):
        # Each 12 steps of the val are as an octave: 3 with a power of 12 is out of range, so what is tempered to
        # the same is set against it: 19 + 19 + 42 is 80, that is 2 * 34 + 12.
        self.assertEqual(val(12), [0, 12, 19, 28, 34, 42, 44])
        self.assertEqual(vanish(12, 12, [-1, 2, 0, -2, 1, 0]), [12])
        self.assertEqual(vanish(12, 12, [0, 0, 2, 1, 1, -3]), [12])
        self.assertEqual(vanish(12, 12, [0, 0, 2, 1, 1, -2]), [-3])
        self.assertEqual(vanish(12, 12, [0, 0, 2, 1, 0, -3]), [-3])
        self.assertEqual(vanish(12, 12, [0, 0, 2, 0, 1, -3]), [-3])
        self.assertEqual(vanish(12, 12, [0, 0, 1, 1, 1, -3]), [-3])
        self.assertEqual(vanish(12, 12, [0, 2, 0, -2, 1, 0]), [-3])
        self.assertEqual(vanish(12, 12, [-1, 1, 0, -2, 1, 0]), [-3])

    def test_spread_over_all(self):
        for e in spread_intervals(3, 100):
            self.assertEqual(vanish(1, 64, e), [first_vanishing(1, 64, e)], e)

    def test_small_powers(self):
        for e in spread_intervals(4, 100):
            small = [power // 4 for power in e]
            for a, z in ((1, 64), (10, 20), (30, 64)):
                self.assertEqual(vanish(a, z, small), [first_vanishing(a, z, small)], (a, z, small))


class OutOfRange(unittest.TestCase):
    def test_range(self):
        for a, z in BEYOND_SPANS:
            self.assertEqual(vanish(a, z, SYNTONIC_COMMA), [-2], (a, z))
            self.assertEqual(vanish(a, z, UNISON), [-2], (a, z))
            self.assertEqual(vanish(a, z, OCTAVE), [-2], (a, z))

    def test_each_power(self):
        for place in range(6):
            for power in BEYOND_POWERS:
                e = alone(place, power)
                self.assertEqual(vanish(1, 64, e), [-2], e)
                e = list(SYNTONIC_COMMA)
                e[place] = power
                self.assertEqual(vanish(5, 12, e), [-2], e)

    def test_each_power_at_its_ends(self):
        for place in range(6):
            for power in (-8, 8):
                e = alone(place, power)
                self.assertEqual(vanish(1, 64, e), [-3], e)
        self.assertEqual(vanish(1, 64, [8, -5, 0, 0, 0, 0]), [5])
        self.assertEqual(vanish(1, 64, [-8, 5, 0, 0, 0, 0]), [5])

    def test_several_at_once(self):
        self.assertEqual(vanish(0, 65, [9] * 6), [-2])
        self.assertEqual(vanish(GREATEST, LEAST, [LEAST] * 6), [-2])


if __name__ == "__main__":
    unittest.main()
