"""Call 9, again: how a box is written."""

import unittest

from gaugeblocks.sizes import again, box
from reference import SIX_LINES, as_bytes, as_text, blocks_of, box_text


class Again(unittest.TestCase):
    def check(self, text, written):
        self.assertEqual(again(as_bytes(text)), [len(written)] + as_bytes(written), text)

    def test_six_lines(self):
        self.check(SIX_LINES, SIX_LINES)

    def test_no_limits(self):
        for line in ("1\n", "1 +-0\n", "1 +0 +0\n"):
            self.check(line, "1\n")

    def test_both_ways(self):
        for line in ("1 +-0.0001\n", "1 +0.0001 -0.0001\n"):
            self.check(line, "1 +-0.0001\n")
        self.check("1 +0.4096 -0.4096\n", "1 +-0.4096\n")

    def test_two_deviations(self):
        for line in ("1 +0.0002 -0.0001\n", "1 +0 -0.0001\n", "1 +0.0001 +0\n", "1 +0.0001 +0.0001\n",
                     "1 -0.0001 -0.0001\n", "1 -0.01 -0.4\n", "0.001 +0.4096 -0.0009\n", "100 +0.3 +0.1\n"):
            self.check(line, line)

    def test_lines_together(self):
        self.check("1 +0 +0\n2.5 +-0.1\n1 +-0\n3 +0.1 -0.1\n3 +0.1 +0\n", "1\n2.5 +-0.1\n1\n3 +-0.1\n3 +0.1 +0\n")
        self.check("1 +0 +0\n" * 20, "1\n" * 20)

    def test_refusals(self):
        rows = {"": [-2, 7, 0], "\n": [-2, 1, 0], "1": [-2, 7, 1], "1\n2.50\n": [-2, 1, 6], "0\n": [-2, 2, 0],
                "1 +-107374.1825\n": [-2, 3, 4], "1 +1 +2\n": [-2, 4, 5], "1 +-1\n": [-2, 5, 2], "1\n1 h7\n": [-2, 6, 2],
                "1\n" * 21: [-2, 8, 40], "1" * 4096: [-2, 1, 9], "1" * 4097: [-1], "1\n" * 2150: [-1]}
        for text, answer in rows.items():
            self.assertEqual(again(as_bytes(text)), answer, text[:99])

    def check_stays(self, text):
        """What again told is told again, and says the same box."""
        answer = again(as_bytes(text))
        self.assertEqual(answer[0], len(answer) - 1, text)
        self.assertEqual(again(answer[1:]), answer, text)
        self.assertEqual(box(answer[1:]), box(as_bytes(text)), text)
        self.assertEqual(as_text(answer[1:]), box_text(blocks_of(box(as_bytes(text)))), text)

    def test_many_boxes(self):
        limits = ["", " +-0", " +0 +0", " +-0.0009", " +0.0009 -0.0009", " +0 -0.0009", " +0.4096 +0", " -0.0001 -0.0009",
                  " +0.0001 +0.0001"]
        lines = [length + tail + "\n" for length in ("0.001", "0.01", "1", "10.01", "99.999", "100") for tail in limits]
        for line in lines:
            for other in lines:
                self.check_stays(line + other)
        for start in range(0, len(lines) - 20):
            self.check_stays("".join(lines[start:start + 20]))


if __name__ == "__main__":
    unittest.main()
