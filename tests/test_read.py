"""Promise 1: read."""

import unittest

from evensteps.tunings import read

PRIMES = (2, 3, 5, 7, 11, 13)


def told(text):
    return read(list(text.encode("latin-1")))


class Powers(unittest.TestCase):
    def test_number_alone(self):
        self.assertEqual(told("1"), [0, 0, 0, 0, 0, 0, 0])
        self.assertEqual(told("2"), [0, 1, 0, 0, 0, 0, 0])
        self.assertEqual(told("360"), [0, 3, 2, 1, 0, 0, 0])

    def test_each_prime_has_its_own_place(self):
        for place, prime in enumerate(PRIMES):
            powers = [0] * 6
            powers[place] = 1
            self.assertEqual(told(str(prime)), [0] + powers)
            powers[place] = -1
            self.assertEqual(told("1/" + str(prime)), [0] + powers)

    def test_two_numbers(self):
        self.assertEqual(told("3/2"), [0, -1, 1, 0, 0, 0, 0])
        self.assertEqual(told("2/3"), [0, 1, -1, 0, 0, 0, 0])
        self.assertEqual(told("81/80"), [0, -4, 4, -1, 0, 0, 0])
        self.assertEqual(told("1001/1000"), [0, -3, 0, -3, 1, 1, 1])
        self.assertEqual(told("5/1"), [0, 0, 0, 1, 0, 0, 0])

    def test_zero_within_a_number(self):
        self.assertEqual(told("100/10"), [0, 1, 0, 1, 0, 0, 0])

    def test_ratio_need_not_be_in_lowest_terms(self):
        self.assertEqual(told("6/4"), [0, -1, 1, 0, 0, 0, 0])
        self.assertEqual(told("13/13"), [0, 0, 0, 0, 0, 0, 0])

    def test_another_prime_that_cancels_is_not_in_the_ratio(self):
        self.assertEqual(told("34/17"), [0, 1, 0, 0, 0, 0, 0])
        self.assertEqual(told("17/17"), [0, 0, 0, 0, 0, 0, 0])
        self.assertEqual(told("323/646"), [0, -1, 0, 0, 0, 0, 0])

    def test_powers_beyond_those_that_may_be_handed_in(self):
        self.assertEqual(told("512"), [0, 9, 0, 0, 0, 0, 0])
        self.assertEqual(told("1/512"), [0, -9, 0, 0, 0, 0, 0])

    def test_eighteen_digits(self):
        two = str(2 ** 59)
        three = str(3 ** 37)
        ten = "1" + 17 * "0"
        self.assertEqual([len(two), len(three), len(ten)], [18, 18, 18])
        self.assertEqual(told(two), [0, 59, 0, 0, 0, 0, 0])
        self.assertEqual(told("1/" + three), [0, 0, -37, 0, 0, 0, 0])
        self.assertEqual(told(two + "/" + three), [0, 59, -37, 0, 0, 0, 0])
        self.assertEqual(told(three + "/" + two), [0, -59, 37, 0, 0, 0, 0])
        self.assertEqual(told(ten + "/1"), [0, 17, 0, 17, 0, 0, 0])

    def test_many_ratios_come_back_as_their_powers(self):
        exponents = [[k % 5, k % 4, k % 3, k % 2, (k + 1) % 2, (k // 2) % 2] for k in range(60)]
        for up, down in zip(exponents, reversed(exponents)):
            top = bottom = 1
            for prime, above, below in zip(PRIMES, up, down):
                top *= prime ** above
                bottom *= prime ** below
            powers = [above - below for above, below in zip(up, down)]
            self.assertEqual(told(f"{top}/{bottom}"), [0] + powers)


class OtherPrime(unittest.TestCase):
    def test_above_or_below_the_slash(self):
        for text in ("17", "19", "34", "17/2", "2/17", "1/23", "17/19", "19/17", "289/17", "17/289"):
            self.assertEqual(told(text), [-3], text)

    def test_eighteen_digits(self):
        nines = 18 * "9"
        self.assertEqual(told(nines), [-3])
        self.assertEqual(told("1/" + nines), [-3])
        self.assertEqual(told(nines + "/1"), [-3])
        self.assertEqual(told(nines + "/" + nines), [0, 0, 0, 0, 0, 0, 0])


class NotSuchAText(unittest.TestCase):
    def refused(self, text):
        self.assertEqual(told(text), [-100], text)

    def test_empty(self):
        self.assertEqual(read([]), [-100])

    def test_nineteen_digits(self):
        ten = "1" + 18 * "0"
        for text in (ten, ten + "/1", "1/" + ten, ten + "/" + ten, 19 * "7"):
            self.refused(text)

    def test_begins_with_zero(self):
        for text in ("0", "00", "02", "0/1", "1/0", "0/0", "03/2", "3/02", "3/0", "0" + 17 * "1"):
            self.refused(text)

    def test_slashes(self):
        for text in ("/", "//", "/2", "3/", "3//2", "/3/2", "3/2/", "3/2/1", "1/1/1/1"):
            self.refused(text)

    def test_every_byte_that_is_no_digit_and_no_slash(self):
        for byte in range(256):
            if 47 <= byte <= 57:
                continue
            for t in ([byte], [byte, 50], [50, byte], [51, byte, 50], [51, 47, byte], [51, 47, 50, byte]):
                self.assertEqual(read(t), [-100], t)

    def test_digits_alone_are_read(self):
        for byte in range(49, 58):
            self.assertEqual(read([byte])[0], 0)

    def test_form_is_asked_ahead_of_primes(self):
        for text in ("17/", "17/0", "17/19/23", "17x", "017"):
            self.refused(text)

    def test_sixty_four_bytes(self):
        for text in (64 * "1", 64 * "/", 32 * "1" + "/" + 31 * "1", 61 * " " + "3/2", "3/2" + 61 * "\0"):
            self.assertEqual(len(text), 64)
            self.refused(text)

    def test_longest_text_that_is_read(self):
        text = str(2 ** 59) + "/" + str(3 ** 37)
        self.assertEqual(len(text), 37)
        self.assertEqual(told(text)[0], 0)


class TooManyBytes(unittest.TestCase):
    def test_sixty_five_bytes(self):
        self.assertEqual(told(65 * "1"), [-2])
        self.assertEqual(told(65 * "x"), [-2])


if __name__ == "__main__":
    unittest.main()
