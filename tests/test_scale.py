"""Promise 7: scale; what it refuses as out of range is in test_scales_refused.py."""

import unittest
from fractions import Fraction

from evensteps.tunings import scale
from helper import (
    FIFTH, NEAR_TO_OCTAVES, THIRD, UNISON, alone, joined, ratio, scale_by_fractions, spread_intervals, told, turned,
)

TWELFTH = [0, 1, 0, 0, 0, 0]
WHOLE_TONE = [-3, 2, 0, 0, 0, 0]


class Tones(unittest.TestCase):
    def check(self, c, e):
        answer = scale(c, 64, e)
        self.assertEqual(answer, told(scale_by_fractions(c, e)), (c, e))
        self.assertEqual((answer[0], len(answer)), (c, 1 + 6 * c), (c, e))

    def test_one(self):
        for e in (FIFTH, turned(FIFTH), TWELFTH, [8] * 6, [-8] * 6):
            self.assertEqual(scale(1, 64, e), [1, 0, 0, 0, 0, 0, 0])

    def test_two(self):
        self.assertEqual(scale(2, 64, FIFTH), [2] + UNISON + FIFTH)
        self.assertEqual(scale(2, 64, THIRD), [2] + UNISON + THIRD)

    def test_seven(self):
        expected = [
            UNISON, WHOLE_TONE, [-6, 4, 0, 0, 0, 0], [-9, 6, 0, 0, 0, 0],
            FIFTH, [-4, 3, 0, 0, 0, 0], [-7, 5, 0, 0, 0, 0],
        ]
        self.assertEqual(scale(7, 64, FIFTH), [7] + joined(expected))

    def test_twelve(self):
        order = (0, 7, 2, 9, 4, 11, 6, 1, 8, 3, 10, 5)
        octaves = (0, 11, 3, 14, 6, 17, 9, 1, 12, 4, 15, 7)
        expected = [[-less, times, 0, 0, 0, 0] for times, less in zip(order, octaves)]
        self.assertEqual(scale(12, 64, FIFTH), [12] + joined(expected))

    def test_sixty_four(self):
        for e in (FIFTH, turned(FIFTH), THIRD, [8] * 6, [-8] * 6, [8, -8, 8, -8, 8, -8]):
            self.check(64, e)

    def test_above_the_octave(self):
        self.assertEqual(scale(2, 64, TWELFTH), [2] + UNISON + FIFTH)
        self.assertEqual(scale(7, 64, TWELFTH), scale(7, 64, FIFTH))
        self.assertEqual(scale(2, 64, [8, 1, 0, 0, 0, 0]), [2] + UNISON + FIFTH)

    def test_below_unison(self):
        fourth = [2, -1, 0, 0, 0, 0]
        self.assertEqual(scale(2, 64, turned(FIFTH)), [2] + UNISON + fourth)
        self.assertEqual(scale(3, 64, turned(FIFTH)), [3] + UNISON + fourth + [4, -2, 0, 0, 0, 0])
        self.assertEqual(scale(2, 64, [-8, -1, 0, 0, 0, 0]), [2] + UNISON + fourth)

    def test_every_c(self):
        for c in range(1, 65):
            self.check(c, FIFTH)
            self.check(c, [2, -1, 1, -1, 0, 0])

    def test_ends_of_the_powers(self):
        for signs in range(0, 64, 3):
            self.check(12, [8 if signs >> place & 1 else -8 for place in range(6)])

    def test_each_prime_alone(self):
        for place in range(1, 6):
            for power in (-8, -1, 1, 8):
                self.check(20, alone(place, power))

    def test_spread_over_all(self):
        for seed, e in enumerate(spread_intervals(8, 40)):
            self.check(seed + 5, e)

    def test_tones_that_lie_near_to_one_another(self):
        for times, odd in NEAR_TO_OCTAVES:
            for c in (times, times + 1, 64):
                self.check(c, [0] + list(odd))
                self.check(c, [8] + turned(odd))

    def test_ascending_from_unison_to_below_the_octave(self):
        for e in spread_intervals(9, 20) + [FIFTH, turned(THIRD)]:
            answer = scale(40, 64, e)
            sizes = [ratio(answer[start:start + 6]) for start in range(1, len(answer), 6)]
            self.assertEqual(len(sizes), 40)
            self.assertEqual(sizes[0], Fraction(1))
            self.assertLess(sizes[-1], 2)
            for lower, upper in zip(sizes, sizes[1:]):
                self.assertLess(lower, upper)


class Most(unittest.TestCase):
    def test_just_as_many(self):
        for c in range(1, 65):
            self.assertEqual(scale(c, c, FIFTH), scale(c, 64, FIFTH))
            self.assertEqual(scale(c, c, FIFTH)[0], c)

    def test_one_less(self):
        for c in range(1, 65):
            self.assertEqual(scale(c, c - 1, FIFTH), [-1], c)

    def test_none(self):
        for c in (1, 2, 7, 12, 64):
            self.assertEqual(scale(c, 0, FIFTH), [-1])

    def test_most_is_in_intervals(self):
        self.assertEqual(scale(12, 12, FIFTH)[0], 12)
        self.assertEqual(scale(2, 1, FIFTH), [-1])


if __name__ == "__main__":
    unittest.main()
