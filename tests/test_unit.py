"""Call 1, unit."""

import unittest

from gaugeblocks.sizes import unit
from reference import NOT_NOMINAL, many_sizes


class Unit(unittest.TestCase):
    def test_example(self):
        self.assertEqual(unit(250000), [14])

    def test_edges(self):
        self.assertEqual(unit(1), [1])
        self.assertEqual(unit(111), [1])
        self.assertEqual(unit(112), [2])
        self.assertEqual(unit(888), [2])
        self.assertEqual(unit(889), [3])
        self.assertEqual(unit(2147483647), [269])

    def test_no_nominal_size(self):
        for n in NOT_NOMINAL:
            self.assertEqual(unit(n), [-3], n)

    def test_least_unit_that_is_enough(self):
        for n in many_sizes():
            answer = unit(n)
            self.assertEqual(len(answer), 1, n)
            u = answer[0]
            self.assertGreaterEqual(u, 1, n)
            self.assertGreaterEqual(111 * u * u * u, n)
            self.assertTrue(u == 1 or 111 * (u - 1) ** 3 < n, n)


if __name__ == "__main__":
    unittest.main()
