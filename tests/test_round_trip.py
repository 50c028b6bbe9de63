"""Promise 1: a text is one size's or has one fault; a right size is written as the text that it's read of, only so."""

import unittest

from gaugeblocks.sizes import read, write
from reference import BOUND, GREATEST, LETTERS, as_bytes, code, number_text, unit_edges

NUMBERS = [0, 1, 9, 10, 99, 100, 1000, 9999, 10000, 10001, 10100, 123456, 250000, 25000000, BOUND - 1, BOUND,
           BOUND + 1, GREATEST - 1, GREATEST, GREATEST + 1]


class SizesToTexts(unittest.TestCase):
    def check_size(self, size):
        """Gives whether the size is right; if it is, its text says just it."""
        answer = write(*size)
        if answer == [-3]:
            return False
        self.assertEqual(answer[0], len(answer) - 1, size)
        self.assertEqual(read(answer[1:]), [0] + list(size), size)
        return True

    def test_sizes_without_a_code(self):
        right = 0
        deviations = NUMBERS + [-number for number in NUMBERS]
        for n in NUMBERS:
            for lo in deviations:
                for hi in deviations:
                    right += sum(self.check_size((n, lo, hi, form, 0, 0)) for form in (0, 1, 2))
        self.assertGreater(right, 3000)

    def test_all_codes(self):
        for n in unit_edges()[::20] + [1, 2, 5000, GREATEST]:
            for letter in LETTERS:
                for g in range(17):
                    answer = code(n, letter, g)
                    if answer[0] == 0:
                        self.assertTrue(self.check_size((n, answer[1], answer[2], 3, letter, g)), (n, letter, g))


class TextsToSizes(unittest.TestCase):
    def check_text(self, text):
        """Gives whether the text has no fault; if so, its size is written as just it."""
        numbers = as_bytes(text)
        answer = read(numbers)
        if answer[0] == 0:
            self.assertEqual(len(answer), 7, text)
            self.assertEqual(write(*answer[1:]), [len(numbers)] + numbers, text)
            return True
        self.assertEqual((answer[0], len(answer)), (-2, 3), text)
        self.assertIn(answer[1], (1, 2, 3, 4, 5), text)
        self.assertTrue(0 <= answer[2] <= len(numbers), text)
        return False

    def test_texts_of_many_parts(self):
        parts = ["", "0", "00", "1", "2.5", "2.50", "107374.1824", "107374.1825", "214748.3647", "999999999"]
        signs = ["", "+", "-", "+-", "h", "Z"]
        tails = [f" {sign}{part}" for sign in signs for part in parts] + [""]
        told = [self.check_text(part + tail + end) for part in parts for tail in tails for end in tails]
        self.assertGreater(sum(told), 150)
        self.assertGreater(len(told) - sum(told), 10000)

    def test_all_short_texts_of_few_signs(self):
        texts = [""]
        told = 0
        for length in range(6):
            texts = [text + sign for text in texts for sign in "01.+- h"]
            told += sum(self.check_text(text) for text in texts)
        self.assertGreater(told, 150)

    def test_numbers_of_all_lengths(self):
        for n in NUMBERS:
            for tail in ("", " +-0", " +0 +0", " +0.0001 +0", " H0", " A16"):
                self.assertEqual(self.check_text(number_text(n) + tail), 1 <= n <= GREATEST, (n, tail))


if __name__ == "__main__":
    unittest.main()
