"""Call 8, box: the blocks of a box's text, and the text's faults and their places."""

import unittest

from gaugeblocks.sizes import box
from reference import SIX_LINES, as_bytes, blocks_of, box as expected, box_text

TWO_LINES = "1\n2\n"
TWENTY_LINES = "1 +-0.1\n" * 20
# texts of one line with a fault of the size's text: kind and place
FAULTY_LINES = {
    "2.50": (1, 4),
    "25 ": (1, 3),
    "025": (1, 1),
    " 1": (1, 0),
    "1 ": (1, 2),
    "1\r": (1, 1),
    "1 h17": (1, 4),
    "0": (2, 0),
    "214748.3648": (2, 0),
    "1 +-107374.1825": (3, 4),
    "1 +0 -107374.1825": (3, 6),
    "1 +0.01 +0.02": (4, 8),
    "1 +-1": (5, 2),
    "0.0001 h0": (5, 7),
    "0.5 +0 -0.5": (5, 4),
}
# lines that are a size's text, but no block's
NO_BLOCKS = ("1 h7", "1 H7", "25 H16", "0.0009", "0.0015", "0.0001", "1.0001", "100.001", "101", "214748.3647", "1 +-0.4097",
             "1 +0.4097 +0", "1 +0.4097 +0.4097", "1 +0 -0.4097", "1 -0.4097 -0.4097", "100.001 h7", "10.0005 +-0.4097")


class Boxes(unittest.TestCase):
    def check(self, text, answer):
        self.assertEqual(box(as_bytes(text)), answer, text[:99])


class Blocks(Boxes):
    def test_six_lines(self):
        self.check(SIX_LINES, [6, 10000, -1, 1, 10100, -1, 1, 11000, -2, 2, 20000, -1, 1, 100000, -1, 2, 200000, -3, 3])

    def test_each_form(self):
        self.check("1\n", [1, 10000, 0, 0])
        self.check("1 +-0.25\n", [1, 10000, -2500, 2500])
        self.check("1 +0.2 -0.1\n", [1, 10000, -1000, 2000])
        self.check("1 +-0\n1 +0 +0\n1\n", [3, 10000, 0, 0, 10000, 0, 0, 10000, 0, 0])

    def test_edges_of_a_block(self):
        self.check("0.001\n", [1, 10, 0, 0])
        self.check("100\n", [1, 1000000, 0, 0])
        self.check("1 +-0.4096\n", [1, 10000, -4096, 4096])
        self.check("1 +0.4096 +0.4096\n", [1, 10000, 4096, 4096])
        self.check("1 -0.4096 -0.4096\n", [1, 10000, -4096, -4096])
        self.check("0.001 +0.4096 -0.0009\n", [1, 10, -9, 4096])
        self.check("0.409 +-0.4089\n", [1, 4090, -4089, 4089])

    def test_blocks_alike(self):
        self.check("1\n1\n1\n", [3] + [10000, 0, 0] * 3)

    def test_20_blocks(self):
        self.check(TWENTY_LINES, [20] + [10000, -1000, 1000] * 20)


class Faults(Boxes):
    def check_line(self, line, kind, place):
        """The line as the first, a later, and the last one, and as one without a line feed."""
        for ahead in ("", "1\n", TWO_LINES, TWENTY_LINES[:8 * 19]):
            for behind in ("", "\n", "\n3\n", "\n2.50\n", "\n3"):
                self.check(ahead + line + behind, [-2, kind, len(ahead) + place])

    def test_faults_of_a_size(self):
        for line, (kind, place) in FAULTY_LINES.items():
            self.check_line(line, kind, place)

    def test_lines_that_are_no_blocks(self):
        for line in NO_BLOCKS:
            self.check_line(line, 6, 0)

    def test_no_line_feed_at_the_end(self):
        for text in ("1", "1\n2", "1\n2 +-0.1", SIX_LINES[:-1], TWENTY_LINES[:-1]):
            self.check(text, [-2, 7, len(text)])

    def test_no_bytes(self):
        self.check("", [-2, 7, 0])

    def test_lines_of_no_bytes(self):
        self.check("\n", [-2, 1, 0])
        self.check("\n\n", [-2, 1, 0])
        self.check("\n1\n", [-2, 1, 0])
        self.check("1\n\n", [-2, 1, 2])
        self.check("1\n\n2\n", [-2, 1, 2])
        self.check("1\n2\n\n", [-2, 1, 4])
        self.check("\n" * 4096, [-2, 1, 0])

    def test_21st_line(self):
        place = len(TWENTY_LINES)
        for line in list(FAULTY_LINES) + list(NO_BLOCKS) + ["1", "x"]:
            self.check(TWENTY_LINES + line, [-2, 8, place])
            self.check(TWENTY_LINES + line + "\n", [-2, 8, place])
            self.check(TWENTY_LINES + line + "\n1\n", [-2, 8, place])
        self.check(TWENTY_LINES + "\n", [-2, 8, place])

    def test_earlier_lines_come_first(self):
        self.check("2.50\n" + TWENTY_LINES, [-2, 1, 4])
        self.check(TWENTY_LINES[:8 * 19] + "1 h7\n" + TWENTY_LINES, [-2, 6, 8 * 19])
        self.check("1 h7\n2.50\n", [-2, 6, 0])
        self.check("1 +-1\n0\n", [-2, 5, 2])
        self.check("1\n1 h7\n2.50", [-2, 6, 2])

    def test_faults_of_one_line_in_their_order(self):
        self.check("0.0001 h0", [-2, 5, 7])
        self.check("0.0015 h0", [-2, 6, 0])
        self.check("0 h0\n", [-2, 2, 0])
        self.check("101 +0 +1\n", [-2, 4, 7])
        self.check("101 +-101\n", [-2, 5, 4])
        self.check("101 +-107374.1825", [-2, 3, 6])

    def test_bytes_that_are_no_signs(self):
        for byte in (0, 9, 11, 13, 127, 128, 255):
            self.assertEqual(box(as_bytes("1\n") + [byte] + as_bytes("1\n")), [-2, 1, 2], byte)
            self.assertEqual(box(as_bytes("1\n1") + [byte, 10]), [-2, 1, 3], byte)


class Length(Boxes):
    def test_more_than_4096_bytes(self):
        for text in ("1" * 4300, "\n" * 4300, SIX_LINES * 100):
            for length in (4097, 4098, 4300):
                self.check(text[:length], [-1])

    def test_4096_bytes(self):
        self.check("1" * 4096, [-2, 1, 9])
        self.check((TWENTY_LINES + "1" * 4096)[:4096], [-2, 8, len(TWENTY_LINES)])
        self.check("1\n" * 2048, [-2, 8, 40])

    def test_a_line_of_more_than_64_bytes(self):
        self.check("1\n" + "1" * 65 + "\n", [-2, 1, 11])
        self.check("1\n1 " + "0" * 100 + "\n", [-2, 1, 4])


class ManyTexts(Boxes):
    def test_lines_together(self):
        lines = ["", "1", "1 +-0.1", "0.001 +0.0001 -0.0009", "2.50", "0", "1 +1 +2", "1 +-1", "1 h7", "0.0015", "101"]
        texts = [""]
        for count in range(3):
            texts = [text + line + end for text in texts for line in lines for end in ("\n", "")]
            for text in texts:
                self.check(text, expected(text))

    def test_each_byte_changed(self):
        for place in range(len(SIX_LINES)):
            for sign in "\n 0159.+-hH\0\x7f\xff":
                text = SIX_LINES[:place] + sign + SIX_LINES[place + 1:]
                self.check(text, expected(text))
            self.check(SIX_LINES[:place], expected(SIX_LINES[:place]))

    def test_blocks_about_the_edges(self):
        for length in (1, 5, 9, 10, 11, 15, 20, 4090, 4100, 999990, 1000000, 1000001, 1000010):
            for lo in (-4097, -4096, -4095, -20, -10, -9, -1, 0, 1, 4096, 4097):
                for hi in (-4097, -4096, -9, 0, 1, 10, 4095, 4096, 4097):
                    text = box_text([(length, lo, hi)])
                    self.check(text, expected(text))
                    block = 10 <= length <= 1000000 and length % 10 == 0 and length + lo >= 1
                    limits = -4096 <= lo <= hi <= 4096
                    self.assertEqual(box(as_bytes(text))[0] == 1, block and limits, text)

    def test_boxes_of_all_counts(self):
        blocks = [(10 * k * k + 10, -k % 7 - 9, k * 200) for k in range(20)]
        for count in range(1, 21):
            answer = box(as_bytes(box_text(blocks[:count])))
            self.assertEqual(answer[0], count)
            self.assertEqual(blocks_of(answer), blocks[:count])


if __name__ == "__main__":
    unittest.main()
