"""Call 5, write: right sizes, and every way in which one isn't right."""

import unittest

from gaugeblocks.sizes import write
from reference import BOUND, GREATEST, LETTERS, NOT_LETTERS, NOT_NOMINAL, as_bytes, limits, number_text
from reference import write as expected

N = 250000


class Writing(unittest.TestCase):
    def check(self, text, *size):
        self.assertEqual(write(*size), [len(text)] + as_bytes(text), size)

    def refuse(self, *size):
        self.assertEqual(write(*size), [-3], size)


class Forms(Writing):
    def test_a_number_alone(self):
        self.check("25", N, 0, 0, 0, 0, 0)
        self.check("0.0001", 1, 0, 0, 0, 0, 0)
        self.check("0.001", 10, 0, 0, 0, 0, 0)
        self.check("0.01", 100, 0, 0, 0, 0, 0)
        self.check("0.1", 1000, 0, 0, 0, 0, 0)
        self.check("1", 10000, 0, 0, 0, 0, 0)
        self.check("10.0101", 100101, 0, 0, 0, 0, 0)
        self.check("1000.5", 10005000, 0, 0, 0, 0, 0)
        self.check("214748.3647", GREATEST, 0, 0, 0, 0, 0)

    def test_one_deviation_both_ways(self):
        self.check("25 +-0.05", N, -500, 500, 1, 0, 0)
        self.check("25 +-0", N, 0, 0, 1, 0, 0)
        self.check("25 +-24.9999", N, -N + 1, N - 1, 1, 0, 0)
        self.check("214748.3647 +-107374.1824", GREATEST, -BOUND, BOUND, 1, 0, 0)

    def test_two_deviations(self):
        self.check("25 +0.02 -0.01", N, -100, 200, 2, 0, 0)
        self.check("25 +0.05 -0.05", N, -500, 500, 2, 0, 0)
        self.check("25 +0 +0", N, 0, 0, 2, 0, 0)
        self.check("25 +0 -0.5", N, -5000, 0, 2, 0, 0)
        self.check("25 +0.5 +0", N, 0, 5000, 2, 0, 0)
        self.check("25 -0.1 -0.2", N, -2000, -1000, 2, 0, 0)
        self.check("25 +20 +10", N, 100000, 200000, 2, 0, 0)
        self.check("214748.3647 -107374.1824 -107374.1824", GREATEST, -BOUND, -BOUND, 2, 0, 0)
        self.check("0.0001 +107374.1824 +107374.1824", 1, BOUND, BOUND, 2, 0, 0)

    def test_codes(self):
        self.check("25 H7", N, 0, 159, 3, 72, 7)
        self.check("25 g6", N, -168, -56, 3, 103, 6)
        self.check("25 h0", N, -14, 0, 3, 104, 0)
        self.check("25 h16", N, -3584, 0, 3, 104, 16)
        self.check("0.0001 A16", 1, 32, 288, 3, 65, 16)


class NotRight(Writing):
    def test_no_nominal_size(self):
        for n in NOT_NOMINAL:
            self.refuse(n, 0, 0, 0, 0, 0)
            self.refuse(n, -1, 1, 1, 0, 0)
            self.refuse(n, 1, 2, 2, 0, 0)
            self.refuse(n, 0, 159, 3, 72, 7)

    def test_limits_not_fit(self):
        self.refuse(N, 1, 0, 2, 0, 0)
        self.refuse(N, 500, -500, 1, 0, 0)
        self.refuse(N, -N, 0, 2, 0, 0)
        self.refuse(N, -N, N, 1, 0, 0)
        self.refuse(GREATEST, -BOUND - 1, 0, 2, 0, 0)
        self.refuse(GREATEST, 0, BOUND + 1, 2, 0, 0)
        self.refuse(GREATEST, BOUND + 1, BOUND + 1, 2, 0, 0)
        self.refuse(GREATEST, -BOUND - 1, -BOUND - 1, 2, 0, 0)
        self.refuse(GREATEST, -BOUND - 1, BOUND + 1, 1, 0, 0)
        self.refuse(GREATEST, -2 ** 40, 2 ** 40, 1, 0, 0)
        self.refuse(GREATEST, -2 ** 40, 2 ** 40, 2, 0, 0)
        self.refuse(1, -1, 0, 3, 104, 0)

    def test_forms_that_are_none(self):
        for form in (4, 5, 7, 255, 256, 4294967295):
            self.refuse(N, 0, 0, form, 0, 0)
            self.refuse(N, -500, 500, form, 0, 0)
            self.refuse(N, 0, 159, form, 72, 7)

    def test_letter_or_grade_beside_a_form_without_one(self):
        for letter, grade in ((72, 0), (0, 7), (72, 7), (1, 0), (0, 4294967295), (4294967295, 0)):
            self.refuse(N, 0, 0, 0, letter, grade)
            self.refuse(N, -500, 500, 1, letter, grade)
            self.refuse(N, -100, 200, 2, letter, grade)
            self.refuse(N, 0, 159, 2, letter, grade)

    def test_a_number_alone_with_limits(self):
        for lo, hi in ((-1, 0), (0, 1), (-1, 1), (1, 1), (-1, -1), (0, 159)):
            self.refuse(N, lo, hi, 0, 0, 0)

    def test_both_ways_that_differ(self):
        for lo, hi in ((-1, 0), (0, 1), (-1, 2), (-2, 1), (1, 1), (-1, -1), (1, 2)):
            self.refuse(N, lo, hi, 1, 0, 0)

    def test_limits_that_are_not_the_codes(self):
        for lo, hi in ((0, 158), (0, 160), (-1, 159), (1, 159), (0, 0), (-159, 0)):
            self.refuse(N, lo, hi, 3, 72, 7)

    def test_no_letter(self):
        for letter in NOT_LETTERS:
            self.refuse(N, 0, 159, 3, letter, 7)
            self.refuse(N, 0, 0, 3, letter, 0)

    def test_grade_too_great(self):
        for grade in (17, 18, 70, 256 + 7, 4294967295):
            self.refuse(N, 0, 159, 3, 72, grade)
        # what the widths of grades 17 and 21 would be
        self.refuse(N, 0, 5069, 3, 72, 17)
        self.refuse(N, 0, 20275, 3, 72, 21)


class ManySizes(Writing):
    def test_numbers_of_all_kinds(self):
        about = (-2 ** 40, -GREATEST, -BOUND - 1, -BOUND, -10000, -1, 0, 1, 10000, BOUND, BOUND + 1, GREATEST, 2 ** 40)
        for n in about:
            for lo in about:
                for hi in about:
                    for form in range(5):
                        size = (n, lo, hi, form, 0, 0)
                        self.assertEqual(write(*size), expected(*size), size)

    def test_codes_and_limits_beside_them(self):
        for n in (1, 2, 111, 112, 250000, GREATEST):
            for letter in LETTERS:
                for g in (0, 1, 9, 10, 16):
                    lo, hi = limits(n, letter, g)
                    for size in ((n, lo, hi, 3, letter, g), (n, lo - 1, hi, 3, letter, g), (n, lo, hi + 1, 3, letter, g),
                                 (n, lo, hi, 3, letter ^ 32, g), (n, lo, hi, 3, letter, g + 1)):
                        self.assertEqual(write(*size), expected(*size), size)

    def test_every_four_digits_behind_the_point(self):
        for n in range(1, 20001):
            self.check(number_text(n), n, 0, 0, 0, 0, 0)


if __name__ == "__main__":
    unittest.main()
