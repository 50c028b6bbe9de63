"""Call 6, fit, and promise 3: the gaps of all true sizes are those that fit tells."""

import unittest

from gaugeblocks.sizes import fit, read
from reference import GREATEST, as_bytes

TOO_LONG = "1" * 65


def fit_of(hole, shaft):
    return fit(as_bytes(hole), as_bytes(shaft))


class Fits(unittest.TestCase):
    def check(self, rows):
        for (hole, shaft), answer in rows.items():
            self.assertEqual(fit_of(hole, shaft), answer, (hole, shaft))

    def test_example(self):
        self.check({("25 H7", "25 g6"): [1, 56, 327]})

    def test_always_a_gap(self):
        self.check({
            ("25", "25"): [1, 0, 0],
            ("25 H7", "25 h7"): [1, 0, 318],
            ("25.0001", "25"): [1, 1, 1],
            ("25 +0.02 +0", "25 +0 -0.01"): [1, 0, 300],
            ("25 +0.02 +0.0001", "25 +0 -0.01"): [1, 1, 300],
            ("214748.3647", "0.0001"): [1, GREATEST - 1, GREATEST - 1],
        })

    def test_never_a_gap(self):
        self.check({
            ("25", "25.0001"): [2, -1, -1],
            ("25 +0 -0.02", "25 +0.01 +0"): [2, -300, 0],
            ("25 +0 -0.02", "25 +0.01 +0.0001"): [2, -300, -1],
            ("0.0001", "214748.3647"): [2, 1 - GREATEST, 1 - GREATEST],
            ("25 H7", "25 z6"): [2, -20387, 159 - 20275],
        })

    def test_some_have_a_gap(self):
        self.check({
            ("25 +-0.0001", "25"): [0, -1, 1],
            ("25 +0 -0.02", "25 +0.01 -0.0001"): [0, -300, 1],
            ("25 +0.02 -0.0001", "25 +0 -0.01"): [0, -1, 300],
            ("25 H7", "25 i6"): [0, -168, 103],
        })

    def test_any_letter_for_either(self):
        self.check({("25 g6", "25 H7"): [2, -327, -56], ("25 h6", "25 h6"): [0, -112, 112]})


class Refusals(unittest.TestCase):
    def test_the_holes_text(self):
        for shaft in ("25 g6", "2.50", TOO_LONG, ""):
            self.assertEqual(fit_of(TOO_LONG, shaft), [-1], shaft)
            self.assertEqual(fit_of("", shaft), [-2, 1, 0], shaft)
            self.assertEqual(fit_of("25 +0.01 +0.02", shaft), [-2, 4, 9], shaft)
            self.assertEqual(fit_of("0", shaft), [-2, 2, 0], shaft)

    def test_the_shafts_text(self):
        self.assertEqual(fit_of("25 H7", TOO_LONG), [-1])
        self.assertEqual(fit_of("25 H7", ""), [-2, 1, 0])
        self.assertEqual(fit_of("25 H7", "0.0001 h0"), [-2, 5, 7])
        self.assertEqual(fit_of("25 H7", "1 +-999999999"), [-2, 3, 4])

    def test_64_bytes(self):
        self.assertEqual(fit_of("1" * 64, "25"), [-2, 1, 9])
        self.assertEqual(fit_of("25", "1" * 64), [-2, 1, 9])
        self.assertEqual(fit_of("1" * 100, "25"), [-1])
        self.assertEqual(fit_of("25", "1" * 100), [-1])


class Gaps(unittest.TestCase):
    """Promise 3, by all true sizes of both."""

    def test_gaps_of_all_true_sizes(self):
        deviations = ("+-0", "+-0.0002", "+0.0003 -0.0001", "-0.0001 -0.0002", "+0.0004 +0.0001", "h0", "H0", "g1")
        texts = [f"{n} {deviation}" for n in ("0.01", "0.0098", "0.0103") for deviation in deviations]
        kinds = set()
        for hole in texts:
            for shaft in texts:
                kinds.add(self.check_gaps(hole, shaft))
        self.assertEqual(kinds, {0, 1, 2})

    def check_gaps(self, hole, shaft):
        outer = read(as_bytes(hole))
        inner = read(as_bytes(shaft))
        self.assertEqual([outer[0], inner[0]], [0, 0])
        gaps = [outer[1] + far - inner[1] - other
                for far in range(outer[2], outer[3] + 1) for other in range(inner[2], inner[3] + 1)]
        kind = 1 if min(gaps) >= 0 else 2 if max(gaps) <= 0 else 0
        self.assertEqual(fit_of(hole, shaft), [kind, min(gaps), max(gaps)], (hole, shaft))
        return kind


if __name__ == "__main__":
    unittest.main()
