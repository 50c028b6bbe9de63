"""Call 7, inside, and promise 4: the code lies inside, and none wider does."""

import unittest

from gaugeblocks.sizes import code, inside
from reference import GREATEST, NOT_NOMINAL, all_codes, inside as expected

N = 250000
FAR = 2 ** 40


class Examples(unittest.TestCase):
    def check(self, rows):
        for arguments, answer in rows.items():
            self.assertEqual(inside(*arguments), answer, arguments)

    def test_example(self):
        self.check({(N, -168, -56, 0): [0, ord("g"), 6]})

    def test_the_very_limits_of_a_code_and_one_tick_within(self):
        # of grade 6 the width is 112, of grade 5 80, of grade 7 159; the steps 1 and 2 are 56 and 80
        self.check({
            (N, 0, 159, 1): [0, ord("H"), 7],
            (N, 0, 158, 1): [0, ord("H"), 6],
            (N, 1, 159, 1): [0, ord("G"), 5],
            (N, -159, 0, 0): [0, ord("h"), 7],
            (N, -158, 0, 0): [0, ord("h"), 6],
            (N, -159, -1, 0): [0, ord("g"), 5],
            (N, -168, -56, 0): [0, ord("g"), 6],
            (N, -167, -56, 0): [0, ord("f"), 5],
            (N, -168, -57, 0): [0, ord("f"), 5],
        })

    def test_greatest_grade_then_least_lo(self):
        self.check({
            (N, -FAR, FAR, 0): [0, ord("a"), 16],
            (N, -FAR, FAR, 1): [0, ord("Z"), 16],
            (N, -3584, FAR, 0): [0, ord("h"), 16],
            (N, -3583, FAR, 0): [0, ord("i"), 16],
            (N, 0, FAR, 0): [0, ord("i"), 16],
            (N, 57, FAR, 0): [0, ord("j"), 16],
            (N, 0, FAR, 1): [0, ord("H"), 16],
            (N, 1, FAR, 1): [0, ord("G"), 16],
        })

    def test_any_other_number_is_for_holes(self):
        for hole in (1, 2, 255, 256, 4294967295):
            self.check({(N, 0, 159, hole): [0, ord("H"), 7], (N, -168, -56, hole): [0, ord("I"), 6]})

    def test_limits_not_fit_are_none(self):
        # h0 of 1 has lo -1, and 1 - 1 isn't 1 at least
        self.check({
            (1, -1, 0, 0): [-5],
            (2, -1, 0, 0): [0, ord("h"), 0],
            (2, -2, 0, 0): [0, ord("h"), 0],
            (3, -2, 0, 0): [0, ord("h"), 2],
            (1, -FAR, FAR, 0): [0, ord("i"), 16],
            (1, -FAR, FAR, 1): [0, ord("H"), 16],
            (1, -FAR, 0, 1): [-5],
            (1, 0, 1, 1): [0, ord("H"), 0],
        })


class Refusals(unittest.TestCase):
    def test_no_nominal_size(self):
        for n in NOT_NOMINAL:
            for lo, hi in ((-168, -56), (-FAR, FAR), (0, 0), (1, 0)):
                for hole in (0, 1):
                    self.assertEqual(inside(n, lo, hi, hole), [-3], (n, lo, hi))

    def test_lo_above_hi(self):
        for lo, hi in ((1, 0), (0, -1), (FAR, -FAR), (160, 159), (-56, -168)):
            for hole in (0, 1, 4294967295):
                self.assertEqual(inside(N, lo, hi, hole), [-3], (lo, hi))

    def test_there_is_none(self):
        for lo, hi in ((0, 0), (0, 13), (-13, 0), (FAR, FAR), (-FAR, -FAR), (-FAR, -FAR + 1000), (1, 14), (30000, FAR)):
            for hole in (0, 1, 2):
                self.assertEqual(inside(N, lo, hi, hole), [-5], (lo, hi, hole))
        self.assertEqual(inside(N, 0, 14, 1), [0, ord("H"), 0])
        self.assertEqual(inside(N, 0, 14, 0), [-5])


class ManyLimits(unittest.TestCase):
    def check_limits(self, n, hole, codes, lo, hi):
        answer = inside(n, lo, hi, hole)
        self.assertEqual(answer, expected(codes, lo, hi), (n, lo, hi, hole))
        if answer[0] == 0:
            told = code(n, answer[1], answer[2])
            self.assertTrue(lo <= told[1] and told[2] <= hi, (n, lo, hi, hole))
            for g, low, high, letter in codes:
                self.assertFalse(lo <= low and high <= hi and high - low > told[2] - told[1], (n, lo, hi, hole))

    def test_limits_about_those_of_codes(self):
        for n in (1, 2, 40, 111, 112, 1000, N, GREATEST):
            for hole in (0, 1):
                codes = all_codes(n, hole)
                for g, low, high, letter in codes[::11]:
                    for lo, hi in ((low, high), (low + 1, high), (low, high - 1), (low - 1, high + 1), (low - 60, high)):
                        if lo <= hi:
                            self.check_limits(n, hole, codes, lo, hi)

    def test_all_small_limits_of_small_sizes(self):
        for n in (1, 3, 9, 112):
            for hole in (0, 1):
                codes = all_codes(n, hole)
                for lo in range(-10, 9, 2):
                    for hi in range(lo, 12):
                        self.check_limits(n, hole, codes, lo, hi)


if __name__ == "__main__":
    unittest.main()
