"""When limits are fit for a nominal size, at the edges that no code's limits come near."""

import unittest

from gaugeblocks.limits import are_fit
from reference import GREATEST

BOUND = 2 ** 30


class FitLimits(unittest.TestCase):
    def test_fit(self):
        for n, lo, hi in ((1, 0, 0), (2, -1, -1), (1, BOUND, BOUND), (GREATEST, -BOUND, BOUND),
                          (GREATEST, -BOUND, -BOUND), (BOUND + 1, -BOUND, 0)):
            self.assertIs(are_fit(n, lo, hi), True, (n, lo, hi))

    def test_lo_above_hi(self):
        for n, lo, hi in ((100, 1, 0), (100, -1, -2), (GREATEST, BOUND, -BOUND)):
            self.assertIs(are_fit(n, lo, hi), False, (n, lo, hi))

    def test_least_size_below_one(self):
        for n, lo, hi in ((1, -1, 0), (2, -2, 5), (BOUND, -BOUND, 0)):
            self.assertIs(are_fit(n, lo, hi), False, (n, lo, hi))

    def test_deviations_too_far(self):
        for n, lo, hi in ((GREATEST, -BOUND - 1, 0), (GREATEST, 0, BOUND + 1), (GREATEST, BOUND + 1, BOUND + 1),
                          (GREATEST, -BOUND - 1, -BOUND - 1)):
            self.assertIs(are_fit(n, lo, hi), False, (n, lo, hi))


if __name__ == "__main__":
    unittest.main()
