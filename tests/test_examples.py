"""Every example of the document, number by number."""

import unittest

from gaugeblocks import sizes
from reference import SIX_LINES, as_bytes

BOX = as_bytes(SIX_LINES)
EXAMPLES = [
    ("unit", (250000,), [14]),
    ("width", (250000, 7), [159]),
    ("width", (250000, 6), [112]),
    ("width", (250000, 4), [56]),
    ("code", (250000, 72, 7), [0, 0, 159]),
    ("code", (250000, 103, 6), [0, -168, -56]),
    ("code", (250000, ord("e"), 6), [0, -224, -112]),
    ("code", (250000, ord("f"), 6), [0, -192, -80]),
    ("code", (250000, ord("h"), 6), [0, -112, 0]),
    ("code", (1, ord("h"), 0), [-4]),
    ("fit", (as_bytes("25 H7"), as_bytes("25 g6")), [1, 56, 327]),
    ("read", (as_bytes("25 +0.02 -0.01"),), [0, 250000, -100, 200, 2, 0, 0]),
    ("read", (as_bytes("25 +-0.05"),), [0, 250000, -500, 500, 1, 0, 0]),
    ("read", (as_bytes("2.50"),), [-2, 1, 4]),
    ("read", (as_bytes("25 +0.01 +0.02"),), [-2, 4, 9]),
    ("read", (as_bytes("0.0001 h0"),), [-2, 5, 7]),
    ("write", (250000, -100, 200, 2, 0, 0), [14] + as_bytes("25 +0.02 -0.01")),
    ("write", (250000, -500, 500, 1, 0, 0), [9] + as_bytes("25 +-0.05")),
    ("inside", (250000, -168, -56, 0), [0, 103, 6]),
    ("box", (BOX,), [6, 10000, -1, 1, 10100, -1, 1, 11000, -2, 2, 20000, -1, 1, 100000, -1, 2, 200000, -3, 3]),
    ("again", (BOX,), [len(BOX)] + BOX),
    ("stack", (1, 331100, BOX, []), [5, 0, 1, 2, 4, 5]),
    ("stack", (1, 331000, BOX, []), [4, 2, 3, 4, 5]),
    ("true_of", (1, BOX, [0, 1, 2, 4, 5]), [0, 331100, 331092, 331113]),
    ("stack", (1, 31000, BOX, []), [2, 2, 3]),
    ("next_of", (1, 30500, 0, BOX, []), [2, 1, 3]),
    ("true_of", (1, BOX, [1, 3]), [0, 30100, 30098, 30103]),
    ("next_of", (1, 30500, 1, BOX, []), [2, 2, 3]),
    ("gap", (10000, 40000, 10000, BOX, []), [1, 40000]),
]


class Examples(unittest.TestCase):
    def test_examples(self):
        for name, arguments, answer in EXAMPLES:
            self.assertEqual(getattr(sizes, name)(*arguments), answer, (name, arguments))

    def test_all_thirteen_functions_have_one(self):
        self.assertEqual(len({name for name, arguments, answer in EXAMPLES}), 13)


if __name__ == "__main__":
    unittest.main()
