"""Promise 2: units and widths grow with N, widths with g; two grades are twice as wide, or one less."""

import unittest

from gaugeblocks.sizes import unit, width
from reference import many_sizes


class Growth(unittest.TestCase):
    def test_units_grow_with_the_size(self):
        units = [unit(n)[0] for n in many_sizes()]
        self.assertEqual(units, sorted(units))
        self.assertEqual(sorted(set(units)), list(range(1, 270)))

    def test_widths_grow_with_the_size(self):
        sizes = many_sizes()
        for g in range(22):
            widths = [width(n, g)[0] for n in sizes]
            self.assertEqual(widths, sorted(widths), g)
            self.assertLess(widths[0], widths[-1], g)

    def test_widths_grow_with_the_grade(self):
        for n in many_sizes():
            widths = [width(n, g)[0] for g in range(22)]
            self.assertEqual(widths, sorted(widths), n)
            self.assertLess(widths[0], widths[-1], n)

    def test_two_grades_are_twice_as_wide_or_one_less(self):
        seen = set()
        for n in many_sizes():
            for g in range(20):
                less = 2 * width(n, g)[0] - width(n, g + 2)[0]
                self.assertIn(less, (0, 1), (n, g))
                seen.add(less)
        self.assertEqual(seen, {0, 1})


if __name__ == "__main__":
    unittest.main()
