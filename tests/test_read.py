"""Call 4, read: the forms of a size's text, its faults and their places."""

import unittest

from gaugeblocks.sizes import read
from reference import BOUND, GREATEST, LETTERS, as_bytes, begins_a_size, limits, number_text, read as expected

NO_SIGN = (0, 9, 10, 31, 33, 44, 47, 58, 64, 91, 96, 123, 127, 128, 255)
SIGNS = as_bytes("0167. +-hH")


class Reading(unittest.TestCase):
    def check(self, rows):
        for text, answer in rows.items():
            self.assertEqual(read(as_bytes(text)), answer, text)

    def check_shape(self, rows):
        self.check({text: [-2, 1, place] for text, place in rows.items()})


class Forms(Reading):
    def test_examples(self):
        self.check({
            "25 +0.02 -0.01": [0, 250000, -100, 200, 2, 0, 0],
            "25 +-0.05": [0, 250000, -500, 500, 1, 0, 0],
            "2.50": [-2, 1, 4],
            "25 +0.01 +0.02": [-2, 4, 9],
            "0.0001 h0": [-2, 5, 7],
        })

    def test_a_number_alone(self):
        self.check({
            "25": [0, 250000, 0, 0, 0, 0, 0],
            "0.0001": [0, 1, 0, 0, 0, 0, 0],
            "0.1": [0, 1000, 0, 0, 0, 0, 0],
            "0.01": [0, 100, 0, 0, 0, 0, 0],
            "0.001": [0, 10, 0, 0, 0, 0, 0],
            "10.0101": [0, 100101, 0, 0, 0, 0, 0],
            "2.501": [0, 25010, 0, 0, 0, 0, 0],
            "214748.3647": [0, GREATEST, 0, 0, 0, 0, 0],
        })

    def test_one_deviation_both_ways(self):
        self.check({
            "25 +-0": [0, 250000, 0, 0, 1, 0, 0],
            "25 +-0.0001": [0, 250000, -1, 1, 1, 0, 0],
            "2.5 +-2.4999": [0, 25000, -24999, 24999, 1, 0, 0],
        })

    def test_two_deviations(self):
        self.check({
            "25 +0 +0": [0, 250000, 0, 0, 2, 0, 0],
            "25 +0 -0.5": [0, 250000, -5000, 0, 2, 0, 0],
            "25 -0.5 -0.5": [0, 250000, -5000, -5000, 2, 0, 0],
            "25 +0.3 +0.2": [0, 250000, 2000, 3000, 2, 0, 0],
            "25 +0.0001 -0.0001": [0, 250000, -1, 1, 2, 0, 0],
        })

    def test_codes(self):
        self.check({
            "25 H7": [0, 250000, 0, 159, 3, 72, 7],
            "25 g6": [0, 250000, -168, -56, 3, 103, 6],
            "25 H0": [0, 250000, 0, 14, 3, 72, 0],
            "25 h16": [0, 250000, -3584, 0, 3, 104, 16],
        })

    def test_all_codes(self):
        for letter in LETTERS:
            for g in range(17):
                lo, hi = limits(250000, letter, g)
                self.assertEqual(read(as_bytes(f"25 {chr(letter)}{g}")), [0, 250000, lo, hi, 3, letter, g])


class Length(Reading):
    def test_64_bytes_and_more(self):
        for start in ("", "25", "25 ", "x", "0", "1" * 64):
            for length in (65, 66, 100):
                self.assertEqual(read(as_bytes(start.ljust(length, "1"))), [-1], (start, length))
        self.assertEqual(read(as_bytes("25 " + "x" * 61)), [-2, 1, 4])
        self.assertEqual(read(as_bytes("1" * 64)), [-2, 1, 9])
        self.assertEqual(read([255] * 64), [-2, 1, 0])
        self.assertEqual(read([255] * 65), [-1])

    def test_longest_size(self):
        text = "214748.3647 -107374.1823 -107374.1824"
        self.assertEqual(read(as_bytes(text)), [0, GREATEST, -BOUND, -BOUND + 1, 2, 0, 0])


class Shape(Reading):
    def test_nothing_there(self):
        self.check_shape({"": 0})

    def test_needless_0(self):
        self.check_shape({"00": 1, "01": 1, "025": 1, "00.5": 1, "25 +-00": 6, "25 +-01": 6, "25 +00 +0": 5,
                          "25 +01 +0": 5, "25 +0 +00": 8, "25 +0 -01": 8, "25 -00.5 +0": 5})

    def test_tenth_digit(self):
        self.check({"123456789": [-2, 2, 0]})
        self.check_shape({"1234567890": 9, "1234567890.5": 9, "1 +-1234567890": 13, "1 +1234567890 +0": 12,
                          "1 +0 -1234567890": 15, "12345678901": 9})

    def test_point_first_or_last(self):
        self.check_shape({".": 0, ".5": 0, "25.": 3, "25. ": 3, "25.. ": 3, "25 +-.5": 5, "25 +-5.": 7, "25 +.5 +0": 4,
                          "25 +5. +0": 6, "25 +0 -.5": 7, "25 +0 +5.": 9, "25.+": 3, "25.h": 3})

    def test_digits_behind_the_point(self):
        self.check({"2.1234": [0, 21234, 0, 0, 0, 0, 0]})
        self.check_shape({"2.12345": 6, "2.12340": 6, "25 +-0.12345": 11, "25 +0.12345 +0": 10, "25 +0 +0.12345": 13})

    def test_last_digit_0(self):
        self.check_shape({"25.0": 4, "25.00": 5, "25.000": 6, "25.0000": 6, "25.00000": 6, "25.1230": 6, "25.0010": 6,
                          "25.10": 5, "25.100": 6, "25.10 +-1": 5, "25.10.": 5, "0.0": 3, "25 +-0.0": 8,
                          "25 +-0.10": 9, "25 +-0.0000": 10, "25 +0.10 +0": 8, "25 +0.1000 +0": 9,
                          "25 +0 -0.10": 11, "25 +0 -0.0000": 12})

    def test_minus_0(self):
        self.check_shape({"25 -0": 5, "25 -0 ": 5, "25 -0 -1": 5, "25 -0 +0": 5, "25 +1 -0": 8, "25 +1 -0 ": 8,
                          "25 +1 -0x": 8, "25 -0.": 6, "25 -0. ": 6, "25 -00": 5, "25 +1 -0.": 9, "-0": 0,
                          "25 -0.0 -1": 7})
        self.check({"25 -0.5 -0.6": [0, 250000, -6000, -5000, 2, 0, 0], "25 +1 -0.5": [0, 250000, -5000, 10000, 2, 0, 0]})

    def test_blanks(self):
        self.check_shape({" ": 0, " 25": 0, "25 ": 3, "25  ": 3, "25  H7": 3, "25  +-1": 3, "25 + -1": 4,
                          "25 +- 1": 5, "25 +1  -1": 6, "25 +1 ": 6, "25 +1 - 1": 7, "25 H 7": 4, "25 H7 ": 5,
                          "25 +-1 ": 6, "25 +1 -1 ": 8, "25\t+-1": 2, "25\n": 2, "2 5": 2})

    def test_signs_in_the_wrong_place(self):
        self.check_shape({"+25": 0, "-25": 0, "25+": 2, "25+-1": 2, "25 +": 4, "25 -": 4, "25 +-": 5, "25 --": 4,
                          "25 -+1": 4, "25 ++1": 4, "25 +-+1": 5, "25 +--1": 5, "25 +1": 5, "25 -1": 5, "25 +1-1": 5,
                          "25 +1 1": 6, "25 +1 +-1": 7, "25 +1 -": 7, "25 +1 +": 7, "25 +1 h7": 6, "25 1": 3,
                          "25 +h7": 4, "25,5": 2, "2,5": 1})

    def test_letters_and_grades(self):
        self.check_shape({"h7": 0, "25h7": 2, "25 h": 4, "25 H ": 4, "25 hh": 4, "25 hH7": 4, "25 h-1": 4, "25 h+1": 4,
                          "25 h17": 5, "25 h18": 5, "25 h19": 5, "25 h20": 5, "25 h70": 5, "25 h01": 5, "25 h00": 5,
                          "25 h160": 6, "25 h100": 6, "25 h1.": 5, "25 h.": 4, "25 h16 ": 6})
        self.check({"25 h16": [0, 250000, -3584, 0, 3, 104, 16], "25 h10": [0, 250000, -448, 0, 3, 104, 10],
                    "25 h1": [0, 250000, -20, 0, 3, 104, 1]})

    def test_bytes_behind_a_whole_size(self):
        for size in ("25.1234", "0", "25 +-1", "25 +-1.1234", "25 +1 -1", "25 +1 -1.1234", "25 h9", "25 H16", "25 h0"):
            for byte in NO_SIGN + tuple(as_bytes("+-hHx")):
                self.assertEqual(read(as_bytes(size) + [byte]), [-2, 1, len(size)], (size, byte))

    def test_bytes_that_are_no_signs(self):
        text = as_bytes("25.1 +0.25 -0.75")
        for place in range(len(text) + 1):
            for byte in NO_SIGN:
                # a text whose byte there is another one, and what was behind it stays
                wrong = text[:place] + [byte] + text[place + 1:]
                self.assertEqual(read(wrong), [-2, 1, place], (place, byte))

    def test_letters_of_other_bytes(self):
        for byte in range(256):
            if byte not in LETTERS and byte not in as_bytes("+-"):
                self.assertEqual(read(as_bytes("25 ") + [byte] + as_bytes("7")), [-2, 1, 3], byte)


class Values(Reading):
    def test_no_nominal_size(self):
        self.check({
            "0": [-2, 2, 0],
            "214748.3648": [-2, 2, 0],
            "214749": [-2, 2, 0],
            "999999999.9999": [-2, 2, 0],
            "0 +-1": [-2, 2, 0],
            "0 +2 +1": [-2, 2, 0],
            "0 H7": [-2, 2, 0],
            "214748.3648 H7": [-2, 2, 0],
            "214748.3647": [0, GREATEST, 0, 0, 0, 0, 0],
        })

    def test_deviations_too_great(self):
        self.check({
            "214748 +-107374.1824": [0, 2147480000, -BOUND, BOUND, 1, 0, 0],
            "214748 +-107374.1825": [-2, 3, 9],
            "214748 +107374.1824 +0": [0, 2147480000, 0, BOUND, 2, 0, 0],
            "214748 +107374.1825 +0": [-2, 3, 8],
            "214748 +107374.1824 +107374.1824": [0, 2147480000, BOUND, BOUND, 2, 0, 0],
            "214748 +107374.1824 +107374.1825": [-2, 3, 21],
            "214748 +0 -107374.1824": [0, 2147480000, -BOUND, 0, 2, 0, 0],
            "214748 +0 -107374.1825": [-2, 3, 11],
            "214748 -107374.1824 -107374.1824": [0, 2147480000, -BOUND, -BOUND, 2, 0, 0],
            "214748 -107374.1825 -107374.1825": [-2, 3, 8],
            "214748 -107374.1825 -1": [-2, 3, 8],
            "214748 +107374.1825 -107374.1825": [-2, 3, 8],
            "1 +-999999999.9999": [-2, 3, 4],
            "1 +1 +999999999.9999": [-2, 3, 6],
        })

    def test_second_deviation_above_the_first(self):
        self.check({
            "25 +0 +0.0001": [-2, 4, 6],
            "25 -0.0001 +0": [-2, 4, 11],
            "25 -2 -1": [-2, 4, 6],
            "25 -1 +1": [-2, 4, 6],
            "2.5 +1 +1.0001": [-2, 4, 7],
            "2.5 +1 +1": [0, 25000, 10000, 10000, 2, 0, 0],
        })

    def test_limits_not_fit(self):
        self.check({
            "1 +-1": [-2, 5, 2],
            "1 +-0.9999": [0, 10000, -9999, 9999, 1, 0, 0],
            "1.25 +0 -1.25": [-2, 5, 5],
            "1.25 +0 -1.2499": [0, 12500, -12499, 0, 2, 0, 0],
            "1.25 -1.25 -1.25": [-2, 5, 5],
            "0.0001 h0": [-2, 5, 7],
            "0.0002 h0": [0, 2, -1, 0, 3, 104, 0],
            "0.0001 H0": [0, 1, 0, 1, 3, 72, 0],
            "0.0001 Z16": [-2, 5, 7],
            "107374.1824 +-107374.1824": [-2, 5, 12],
            "107374.1825 +-107374.1824": [0, BOUND + 1, -BOUND, BOUND, 1, 0, 0],
        })


class Order(Reading):
    def test_shape_ahead_of_values(self):
        self.check_shape({"0 ": 2, "0 +-999999999x": 13, "0 +1 +2 ": 7, "999999999 +0 +999999999.0": 25,
                          "0.0001 h0 ": 9, "1 +-1 ": 5, "25 +1 +2x": 8})

    def test_kinds_in_their_order(self):
        self.check({
            "0 +-999999999": [-2, 2, 0],
            "0 +1 +2": [-2, 2, 0],
            "0 +-1": [-2, 2, 0],
            "999999999 -999999999 +999999999": [-2, 2, 0],
            "1 -999999999 +1": [-2, 3, 3],
            "1 +1 +999999999": [-2, 3, 6],
            "1 +-999999999": [-2, 3, 4],
            "1 -3 -2": [-2, 4, 5],
        })


class ManyTexts(Reading):
    def check_text(self, text):
        self.assertEqual(read(as_bytes(text)), expected(text), text)

    def test_all_short_texts(self):
        # what is dead stays so: each text that begins a size's, with any byte behind it
        begun = [""]
        for length in range(5):
            for text in begun:
                for byte in range(256):
                    self.check_text(text + chr(byte))
            begun = [text + chr(byte) for text in begun for byte in SIGNS if begins_a_size(text + chr(byte))]
        self.assertGreater(len(begun), 2000)

    def test_longer_texts_of_few_signs(self):
        begun = ["1 "]
        for length in range(10):
            longer = [text + sign for text in begun for sign in "01. +-h"]
            for text in longer:
                self.check_text(text)
            begun = [text for text in longer if begins_a_size(text)]
        self.assertGreater(len(begun), 4000)

    def test_each_byte_changed(self):
        for text in ("214748.3647 +107374.1824 -107374.1824", "10.01 +-0.0101", "0.0001 h16", "107374.1825 A10"):
            for place in range(len(text)):
                for byte in range(256):
                    self.check_text(text[:place] + chr(byte) + text[place + 1:])
                self.check_text(text[:place])
                self.check_text(text[:place] + text[place + 1:])

    def test_values_about_the_edges(self):
        about = (0, 1, 2, 9999, 10000, 10001, BOUND - 1, BOUND, BOUND + 1, GREATEST, GREATEST + 1)
        for n in about:
            for far in about:
                for other in about:
                    for signs in ("++", "+-", "-+", "--"):
                        deviations = f"{signs[0]}{number_text(far)} {signs[1]}{number_text(other)}"
                        self.check_text(f"{number_text(n)} {deviations}")
                self.check_text(f"{number_text(n)} +-{number_text(far)}")
            for letter in "aghizAGHIZ":
                for g in (0, 1, 9, 10, 15, 16):
                    self.check_text(f"{number_text(n)} {letter}{g}")


if __name__ == "__main__":
    unittest.main()
