"""Call 3, code."""

import unittest

from gaugeblocks.sizes import code
from reference import GREATEST, LETTERS, NOT_LETTERS, NOT_NOMINAL, code as expected, limits, unit, unit_edges

NOT_GRADES = (17, 18, 21, 22, 256, 4294967295)


class Examples(unittest.TestCase):
    def test_examples(self):
        self.assertEqual(code(250000, 72, 7), [0, 0, 159])
        self.assertEqual(code(250000, 103, 6), [0, -168, -56])

    def test_letters_at_their_edges(self):
        # the unit is 14: T(4) is 56, T(10) 448, T(21) 20275; of grade 6 the width is 112
        rows = {
            "a": [0, -560, -448],
            "h": [0, -112, 0],
            "i": [0, 56, 168],
            "z": [0, 20275, 20387],
            "A": [0, 448, 560],
            "H": [0, 0, 112],
            "I": [0, -168, -56],
            "Z": [0, -20387, -20275],
        }
        for letter, answer in rows.items():
            self.assertEqual(code(250000, ord(letter), 6), answer, letter)

    def test_ends_of_the_grades(self):
        self.assertEqual(code(250000, ord("H"), 0), [0, 0, 14])
        self.assertEqual(code(250000, ord("H"), 16), [0, 0, 3584])
        self.assertEqual(code(250000, ord("h"), 0), [0, -14, 0])
        self.assertEqual(code(250000, ord("h"), 16), [0, -3584, 0])
        self.assertEqual(code(GREATEST, ord("z"), 16), [0, 389554, 389554 + 269 * 256])


class Refusals(unittest.TestCase):
    def test_no_nominal_size(self):
        for n in NOT_NOMINAL:
            self.assertEqual(code(n, 72, 7), [-3], n)

    def test_letter_that_is_none(self):
        for letter in NOT_LETTERS:
            for g in (0, 7, 16):
                self.assertEqual(code(250000, letter, g), [-5], (letter, g))

    def test_grade_too_great(self):
        for letter in LETTERS:
            for g in NOT_GRADES:
                self.assertEqual(code(250000, letter, g), [-5], (letter, g))

    def test_limits_not_fit(self):
        self.assertEqual(code(1, 104, 0), [-4])
        self.assertEqual(code(2, 104, 0), [0, -1, 0])
        self.assertEqual(code(1, 72, 0), [0, 0, 1])
        self.assertEqual(code(1, ord("Z"), 16), [-4])
        self.assertEqual(code(1, ord("A"), 16), [0, 32, 288])

    def test_size_ahead_of_code(self):
        for n in NOT_NOMINAL:
            for letter in (0, 96, 104, 4294967295):
                for g in (0, 17, 4294967295):
                    self.assertEqual(code(n, letter, g), [-3], (n, letter, g))

    def test_code_ahead_of_limits(self):
        for letter in NOT_LETTERS:
            self.assertEqual(code(1, letter, 16), [-5], letter)
        for g in NOT_GRADES:
            self.assertEqual(code(1, 104, g), [-5], g)
            self.assertEqual(code(1, 0, g), [-5], g)

    def test_every_number_that_is_no_letter(self):
        for letter in range(512):
            if letter not in LETTERS:
                self.assertEqual(code(250000, letter, 6), [-5], letter)


class ManyCodes(unittest.TestCase):
    def check_all_codes(self, n):
        for letter in LETTERS:
            for g in range(17):
                self.assertEqual(code(n, letter, g), expected(n, letter, g), (n, letter, g))

    def test_all_codes_of_small_sizes(self):
        for n in range(1, 120):
            self.check_all_codes(n)

    def test_all_codes_of_sizes_where_the_unit_changes(self):
        for n in unit_edges()[::6] + [GREATEST]:
            self.check_all_codes(n)

    def test_limits_that_are_just_fit(self):
        found = set()
        for edge in unit_edges():
            for letter in LETTERS:
                found.update(self.just_fit(edge, letter))
        shafts = [letter for letter, g in found if letter >= 97]
        holes = [letter for letter, g in found if letter <= 90]
        self.assertTrue(shafts)
        self.assertTrue(holes)

    def just_fit(self, edge, letter):
        """Checks both sizes about N + lo = 1, where they have the edge's unit; gives the codes tried."""
        tried = []
        for g in (0, 7, 16):
            lo, hi = limits(edge, letter, g)
            n = 1 - lo
            if lo < 0 and unit(n) == unit(n - 1) == unit(edge):
                self.assertEqual(code(n, letter, g), [0, lo, hi], (n, letter, g))
                self.assertEqual(code(n - 1, letter, g), [-4], (n - 1, letter, g))
                tried.append((letter, g))
        return tried


if __name__ == "__main__":
    unittest.main()
