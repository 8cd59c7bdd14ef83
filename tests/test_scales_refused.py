"""Promises 7 and 8: what scale and kinds refuse alike, as out of range."""

import unittest

from evensteps.tunings import kinds, scale
from helper import (
    BEYOND_POWERS, BEYOND_SCALES, FIFTH, GREATEST, LEAST, OCTAVE, UNISON,
    alone, kinds_by_fractions, scale_by_fractions, told,
)


class OutOfRange(unittest.TestCase):
    def refused(self, c, most, e):
        self.assertEqual(scale(c, most, e), [-2], (c, most, e))
        self.assertEqual(kinds(c, most, e), [-2], (c, most, e))

    def answered(self, c, e):
        self.assertEqual(scale(c, 64, e), told(scale_by_fractions(c, e)), (c, e))
        self.assertEqual(kinds(c, 64, e), told(kinds_by_fractions(c, e)), (c, e))

    def test_nothing_but_octaves(self):
        for power in range(-8, 9):
            for c, most in ((1, 64), (1, 1), (2, 64), (12, 12), (64, 64)):
                self.refused(c, most, [power, 0, 0, 0, 0, 0])

    def test_any_other_prime_is_something_else(self):
        for place in range(1, 6):
            for power in (-1, 1):
                self.answered(3, alone(place, power))

    def test_c_and_most(self):
        for c, most in BEYOND_SCALES:
            self.refused(c, most, FIFTH)

    def test_c_at_its_ends(self):
        self.answered(1, FIFTH)
        self.answered(64, FIFTH)

    def test_each_power(self):
        for place in range(6):
            for power in BEYOND_POWERS:
                for e in (FIFTH, [8, -8, 8, -8, 8, -8]):
                    beyond = list(e)
                    beyond[place] = power
                    self.refused(7, 64, beyond)

    def test_each_power_at_its_ends(self):
        for place in range(6):
            for power in (-8, 8):
                e = [-1, 1, 0, 0, 1, 0]
                e[place] = power
                self.answered(7, e)

    def test_ahead_of_more_than_most(self):
        self.refused(12, 0, OCTAVE)
        self.refused(12, 1, UNISON)
        self.refused(65, 0, FIFTH)
        self.refused(65, 64, FIFTH)
        self.refused(12, -1, FIFTH)
        self.refused(12, 0, [9, 1, 0, 0, 0, 0])
        self.refused(12, 1, [0, 0, 0, 0, 0, -9])

    def test_several_at_once(self):
        self.refused(0, -1, [9] * 6)
        self.refused(GREATEST, LEAST, [LEAST] * 6)
        self.refused(0, 65, OCTAVE)
        self.refused(12, 12, [9, 0, 0, 0, 0, 0])


if __name__ == "__main__":
    unittest.main()
