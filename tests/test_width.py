"""Call 2, width."""

import unittest

from gaugeblocks.sizes import width
from reference import GREATEST, NOT_NOMINAL, many_sizes, unit


class Width(unittest.TestCase):
    def test_examples(self):
        self.assertEqual(width(250000, 7), [159])
        self.assertEqual(width(250000, 6), [112])

    def test_ends_of_the_grades(self):
        self.assertEqual(width(1, 0), [1])
        self.assertEqual(width(1, 1), [2])
        self.assertEqual(width(1, 2), [2])
        self.assertEqual(width(1, 21), [1449])
        self.assertEqual(width(250000, 0), [14])
        self.assertEqual(width(250000, 20), [14 * 1024])
        self.assertEqual(width(GREATEST, 0), [269])
        self.assertEqual(width(GREATEST, 21), [389554])

    def test_grade_too_great(self):
        for n in (1, 250000, GREATEST):
            for g in (22, 23, 64, 256, 4294967295):
                self.assertEqual(width(n, g), [-3], (n, g))

    def test_no_nominal_size(self):
        for n in NOT_NOMINAL:
            for g in (0, 7, 21, 22, 4294967295):
                self.assertEqual(width(n, g), [-3], (n, g))

    def test_least_width_that_is_enough(self):
        for n in many_sizes():
            u = unit(n)
            for g in range(22):
                answer = width(n, g)
                self.assertEqual(len(answer), 1, (n, g))
                t = answer[0]
                self.assertGreaterEqual(t, 1, (n, g))
                self.assertGreaterEqual(t * t, u * u * 2 ** g, (n, g))
                self.assertLess((t - 1) * (t - 1), u * u * 2 ** g, (n, g))


if __name__ == "__main__":
    unittest.main()
