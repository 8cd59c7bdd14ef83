"""Promise 8: kinds; what it refuses as out of range is in test_scales_refused.py."""

import unittest

from evensteps.tunings import kinds, scale
from helper import (
    FIFTH, NEAR_TO_OCTAVES, OCTAVE, THIRD, alone, kinds_by_fractions, ratio, spread_intervals, told, turned,
)

FOURTH = [2, -1, 0, 0, 0, 0]
WHOLE_TONE = [-3, 2, 0, 0, 0, 0]
LIMMA = [8, -5, 0, 0, 0, 0]
APOTOME = [-11, 7, 0, 0, 0, 0]
MINOR_THIRD = [5, -3, 0, 0, 0, 0]


class KindsOfSteps(unittest.TestCase):
    def check(self, c, e):
        answer = kinds(c, 64, e)
        self.assertEqual(answer, told(kinds_by_fractions(c, e)), (c, e))
        self.assertEqual(len(answer), 1 + 6 * answer[0], (c, e))

    def test_one_tone_has_the_octave_as_its_step(self):
        for e in (FIFTH, turned(FIFTH), THIRD, [8] * 6, [-8] * 6):
            self.assertEqual(kinds(1, 64, e), [1] + OCTAVE)

    def test_two_tones(self):
        self.assertEqual(kinds(2, 64, FIFTH), [2] + FOURTH + FIFTH)
        self.assertEqual(kinds(2, 64, turned(FIFTH)), [2] + FOURTH + FIFTH)
        self.assertEqual(kinds(2, 64, THIRD), [2] + THIRD + [3, 0, -1, 0, 0, 0])

    def test_five_seven_and_twelve(self):
        self.assertEqual(kinds(5, 64, FIFTH), [2] + WHOLE_TONE + MINOR_THIRD)
        self.assertEqual(kinds(7, 64, FIFTH), [2] + LIMMA + WHOLE_TONE)
        self.assertEqual(kinds(12, 64, FIFTH), [2] + LIMMA + APOTOME)

    def test_three_kinds(self):
        self.assertEqual(kinds(4, 64, FIFTH), [3] + WHOLE_TONE + MINOR_THIRD + FOURTH)
        self.assertEqual(kinds(6, 64, FIFTH), [3] + LIMMA + WHOLE_TONE + MINOR_THIRD)

    def test_the_step_to_the_octave_counts(self):
        # The tones are 1/1, 9/8 and 3/2: only the last step makes the fourth one of two, and none is a fifth.
        self.assertEqual(kinds(3, 64, FIFTH), [2] + WHOLE_TONE + FOURTH)

    def test_sixty_four(self):
        for e in (FIFTH, turned(FIFTH), THIRD, [8] * 6, [-8] * 6, [8, -8, 8, -8, 8, -8]):
            self.check(64, e)

    def test_every_c(self):
        for c in range(1, 65):
            self.check(c, FIFTH)
            self.check(c, [2, -1, 1, -1, 0, 0])

    def test_how_many(self):
        many = [kinds(c, 64, FIFTH)[0] for c in range(1, 13)]
        self.assertEqual(many, [1, 2, 2, 3, 2, 3, 2, 3, 3, 3, 3, 2])

    def test_ends_of_the_powers(self):
        for signs in range(0, 64, 3):
            self.check(12, [8 if signs >> place & 1 else -8 for place in range(6)])

    def test_each_prime_alone(self):
        for place in range(1, 6):
            for power in (-8, -1, 1, 8):
                self.check(20, alone(place, power))

    def test_spread_over_all(self):
        for seed, e in enumerate(spread_intervals(10, 40)):
            self.check(seed + 5, e)

    def test_tones_that_lie_near_to_one_another(self):
        for times, odd in NEAR_TO_OCTAVES:
            for c in (times, times + 1, 64):
                self.check(c, [0] + list(odd))
                self.check(c, [8] + turned(odd))

    def test_all_different_and_ascending(self):
        for e in spread_intervals(11, 20) + [FIFTH, turned(THIRD)]:
            answer = kinds(40, 64, e)
            sizes = [ratio(answer[start:start + 6]) for start in range(1, len(answer), 6)]
            self.assertEqual(len(sizes), answer[0])
            self.assertLess(1, sizes[0])
            for lower, upper in zip(sizes, sizes[1:]):
                self.assertLess(lower, upper)

    def test_steps_of_the_scale_and_no_others(self):
        for c in (1, 2, 7, 12, 30):
            tones = scale(c, 64, FIFTH)[1:] + OCTAVE
            sizes = [ratio(tones[start:start + 6]) for start in range(0, len(tones), 6)]
            steps = {upper / lower for lower, upper in zip(sizes, sizes[1:])}
            answer = kinds(c, 64, FIFTH)[1:]
            self.assertEqual({ratio(answer[start:start + 6]) for start in range(0, len(answer), 6)}, steps)


class Most(unittest.TestCase):
    def test_just_as_many(self):
        for c in range(1, 65):
            answer = kinds(c, 64, FIFTH)
            self.assertEqual(kinds(c, answer[0], FIFTH), answer)

    def test_one_less(self):
        for c in range(1, 65):
            many = kinds(c, 64, FIFTH)[0]
            self.assertEqual(kinds(c, many - 1, FIFTH), [-1], c)

    def test_none(self):
        for c in (1, 2, 5, 7, 12, 64):
            self.assertEqual(kinds(c, 0, FIFTH), [-1])

    def test_kinds_count_and_not_tones(self):
        self.assertEqual(kinds(7, 2, FIFTH), [2] + LIMMA + WHOLE_TONE)
        self.assertEqual(kinds(7, 1, FIFTH), [-1])
        self.assertEqual(kinds(1, 1, FIFTH), [1] + OCTAVE)
        self.assertEqual(kinds(4, 2, FIFTH), [-1])
        self.assertEqual(kinds(4, 3, FIFTH)[0], 3)


if __name__ == "__main__":
    unittest.main()
