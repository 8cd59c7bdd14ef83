"""Promise 3: val."""

import unittest

from evensteps.tunings import step, val
from helper import BEYOND_STEPS, PRIMES, alone, nearest


class NearestStepsOfThePrimes(unittest.TestCase):
    def test_twelve(self):
        self.assertEqual(val(12), [0, 12, 19, 28, 34, 42, 44])

    def test_least_and_most_steps(self):
        self.assertEqual(val(1), [0, 1, 2, 2, 3, 3, 4])
        self.assertEqual(val(64), [0, 64, 101, 149, 180, 221, 237])

    def test_others(self):
        self.assertEqual(val(2), [0, 2, 3, 5, 6, 7, 7])
        self.assertEqual(val(19), [0, 19, 30, 44, 53, 66, 70])
        self.assertEqual(val(31), [0, 31, 49, 72, 87, 107, 115])
        self.assertEqual(val(53), [0, 53, 84, 123, 149, 183, 196])

    def test_every_n_by_long_decimals(self):
        for n in range(1, 65):
            expected = [nearest(n, alone(place, 1)) for place in range(6)]
            self.assertEqual(val(n), [0] + expected, n)

    def test_every_n_by_whole_powers(self):
        for n in range(1, 65):
            answer = val(n)
            self.assertEqual((len(answer), answer[0]), (7, 0), n)
            for prime, k in zip(PRIMES, answer[1:]):
                self.assertLess(2 ** (2 * k - 1), prime ** (2 * n), (n, prime))
                self.assertLess(prime ** (2 * n), 2 ** (2 * k + 1), (n, prime))

    def test_as_step_answers(self):
        for n in range(1, 65):
            self.assertEqual(val(n)[1:], [step(n, alone(place, 1))[1] for place in range(6)])


class OutOfRange(unittest.TestCase):
    def test_n(self):
        for n in BEYOND_STEPS:
            self.assertEqual(val(n), [-2], n)


if __name__ == "__main__":
    unittest.main()
