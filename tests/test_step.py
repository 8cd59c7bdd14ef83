"""Promise 2: step."""

import unittest
from fractions import Fraction

from evensteps.tunings import step
from helper import BEYOND_POWERS, BEYOND_STEPS, FIFTH, GREATEST, LEAST, alone, ratio, spread, turned

# n, then the powers of 3, 5, 7, 11, 13: where n times the logarithm lies closest to the middle of two
# steps, of all that may be handed in (the first: some 4 in 10 ** 9 off the middle).
CLOSEST_TO_THE_MIDDLE = (
    (35, 1, 6, 6, 0, -8),
    (55, 1, 0, -7, -1, -3),
    (2, 5, -4, -6, 6, 1),
    (34, 5, 5, 7, 5, 5),
    (43, 2, 3, -3, 7, -4),
    (27, 5, -8, 8, 8, -5),
    (38, 8, 8, -8, -5, -4),
    (50, 1, -4, 7, -3, -1),
    (15, 8, 6, 3, 0, 0),
    (6, 5, -4, -6, 6, 1),
)


class Nearest(unittest.TestCase):
    def check(self, n, e):
        """The answer k is nearest just if the ratio to n lies between 2 to k - 1/2 and 2 to k + 1/2."""
        answer = step(n, e)
        self.assertEqual((len(answer), answer[0]), (2, 0), (n, e))
        k = answer[1]
        doubled = ratio(e) ** (2 * n)
        self.assertLess(Fraction(2) ** (2 * k - 1), doubled, (n, e))
        self.assertLess(doubled, Fraction(2) ** (2 * k + 1), (n, e))

    def test_above_unison(self):
        self.assertEqual(step(12, [-1, 1, 0, 0, 0, 0]), [0, 7])
        self.assertEqual(step(12, [-2, 0, 1, 0, 0, 0]), [0, 4])
        self.assertEqual(step(12, [0, 1, 0, 0, 0, 0]), [0, 19])
        self.assertEqual(step(31, [-2, 0, 1, 0, 0, 0]), [0, 10])
        self.assertEqual(step(53, [-1, 1, 0, 0, 0, 0]), [0, 31])

    def test_below_unison(self):
        self.assertEqual(step(12, [1, -1, 0, 0, 0, 0]), [0, -7])
        self.assertEqual(step(12, [0, -1, 0, 0, 0, 0]), [0, -19])
        self.assertEqual(step(12, [2, 0, -1, 0, 0, 0]), [0, -4])
        self.assertEqual(step(1, [-8, 0, 0, 0, 0, 0]), [0, -8])

    def test_unison(self):
        for n in range(1, 65):
            self.assertEqual(step(n, [0, 0, 0, 0, 0, 0]), [0, 0])

    def test_octaves_are_n_steps_each(self):
        for n in range(1, 65):
            for power in range(-8, 9):
                self.assertEqual(step(n, [power, 0, 0, 0, 0, 0]), [0, n * power])

    def test_small_intervals_round_to_zero_from_either_side(self):
        self.assertEqual(step(12, [-4, 4, -1, 0, 0, 0]), [0, 0])
        self.assertEqual(step(12, [4, -4, 1, 0, 0, 0]), [0, 0])
        self.assertEqual(step(53, [-4, 4, -1, 0, 0, 0]), [0, 1])
        self.assertEqual(step(53, [4, -4, 1, 0, 0, 0]), [0, -1])

    def test_nearest_is_not_tempered_by_parts(self):
        # By 4 a fifth is some 2.34 steps and two of them some 4.68: nearest is 5, not twice 2.
        self.assertEqual(step(4, [-1, 1, 0, 0, 0, 0]), [0, 2])
        self.assertEqual(step(4, [-2, 2, 0, 0, 0, 0]), [0, 5])

    def test_every_prime_by_every_n(self):
        for n in range(1, 65):
            for place in range(6):
                for power in (-8, -1, 1, 8):
                    self.check(n, alone(place, power))

    def test_ends_of_the_powers_together(self):
        for signs in range(64):
            e = [8 if signs >> place & 1 else -8 for place in range(6)]
            for n in (1, 2, 63, 64):
                self.check(n, e)

    def test_largest_and_smallest(self):
        self.assertEqual(step(64, [8] * 6), [0, 7616])
        self.assertEqual(step(64, [-8] * 6), [0, -7616])
        self.assertEqual(step(1, [8] * 6), [0, 119])
        self.assertEqual(step(1, [-8] * 6), [0, -119])

    def test_closest_to_the_middle(self):
        for n, *odd in CLOSEST_TO_THE_MIDDLE:
            for octaves in (-8, 0, 8):
                self.check(n, [octaves] + odd)
                self.check(n, [octaves] + turned(odd))

    def test_spread_over_all(self):
        for n, e in spread(2000):
            self.check(n, e)

    def test_turned_round_is_the_same_below_zero(self):
        for n, e in spread(200):
            self.assertEqual(step(n, turned(e))[1], -step(n, e)[1])


class OutOfRange(unittest.TestCase):
    def test_n(self):
        for n in BEYOND_STEPS:
            self.assertEqual(step(n, FIFTH), [-2], n)
        self.assertEqual(step(1, FIFTH), [0, 1])
        self.assertEqual(step(64, FIFTH), [0, 37])

    def test_each_power(self):
        for place in range(6):
            for power in BEYOND_POWERS:
                e = alone(place, power)
                self.assertEqual(step(12, e), [-2], e)
                e = [8, -8, 8, -8, 8, -8]
                e[place] = power
                self.assertEqual(step(12, e), [-2], e)

    def test_each_power_at_its_ends(self):
        for place in range(6):
            for power in (-8, 8):
                e = alone(place, power)
                self.assertEqual(step(12, e)[0], 0, e)

    def test_both(self):
        self.assertEqual(step(0, [9] * 6), [-2])
        self.assertEqual(step(LEAST, [GREATEST] * 6), [-2])


if __name__ == "__main__":
    unittest.main()
