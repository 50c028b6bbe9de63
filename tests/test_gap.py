"""Call 13, gap, and what promise 7 says of it: a length that it passes over can be built."""

import time
import unittest

from gaugeblocks.sizes import gap, stack
from reference import SIX_LINES, as_bytes, box_text, gap as expected, ranked, small_boxes

SIX = as_bytes(SIX_LINES)
FAR = 2 ** 40
# of these are built all multiples of 50 from 50 to 1,550, and no other length
FIVE = as_bytes("0.005\n0.01\n0.02\n0.04\n0.08\n")


class Gap(unittest.TestCase):
    def check(self, first, to, by, answer, box=SIX, barred=()):
        self.assertEqual(gap(first, to, by, box, list(barred)), answer, (first, to, by, barred))

    def test_example(self):
        self.check(10000, 40000, 10000, [1, 40000])

    def test_all_are_built(self):
        self.check(10000, 30000, 10000, [0])
        self.check(10000, 39999, 10000, [0])
        self.check(50, 1550, 50, [0], FIVE)
        self.check(50, 1599, 50, [0], FIVE)
        self.check(31000, 31000, 1, [0])
        self.check(31000, 31000, FAR, [0])

    def test_the_last_one_counts(self):
        self.check(50, 1600, 50, [1, 1600], FIVE)
        self.check(50, FAR, 50, [1, 1600], FIVE)
        self.check(31000, 31001, 1, [1, 31001])
        self.check(31000, 31001, 2, [0])

    def test_from_above_to(self):
        self.check(10000, 9999, 10000, [0])
        self.check(0, -1, 1, [0])
        self.check(5, 4, 1, [0])
        self.check(FAR, -FAR, 1, [0])
        self.check(FAR, -FAR, FAR, [0])

    def test_from_0_and_below(self):
        self.check(0, 40000, 10000, [1, 0])
        self.check(0, 0, 1, [1, 0])
        self.check(-10, 40000, 10, [1, -10])
        self.check(-FAR, FAR, 1, [1, -FAR])
        self.check(-FAR, FAR, FAR, [1, -FAR])
        self.check(-FAR, -FAR, 1, [1, -FAR])

    def test_from_no_multiple_of_10(self):
        for first in (1, 9, 9999, 10001, 10005, 30999):
            self.check(first, FAR, 10, [1, first])
            self.check(first, first, 10, [1, first])

    def test_by_of_1(self):
        self.check(10000, FAR, 1, [1, 10001])
        self.check(10000, 10000, 1, [0])

    def test_by_beyond_all(self):
        self.check(10000, FAR, FAR, [0])
        self.check(10000, FAR, FAR - 10000, [1, FAR])
        self.check(10001, FAR, FAR, [1, 10001])
        self.check(FAR, FAR, FAR, [1, FAR])

    def test_by_below_1(self):
        for by in (0, -1, -10000, -FAR):
            for first, to in ((10000, 40000), (40000, 10000), (0, 0), (-FAR, FAR)):
                self.check(first, to, by, [-3])

    def test_barred_numbers(self):
        self.check(10000, 40000, 10000, [1, 10000], barred=[0])
        self.check(20000, 40000, 10000, [1, 30000], barred=[0])
        self.check(10000, 40000, 10000, [1, 10000], barred=[0, 1, 2, 3, 4, 5])
        self.check(10000, 40000, 10000, [1, 20000], barred=[3])
        self.check(10000, 40000, 10000, [1, 20000], barred=[3, 3, 6, 4294967295])
        self.check(10000, 40000, 10000, [1, 40000], barred=[6, 7, 4294967295])
        self.check(10000, 40000, 10000, [1, 40000], barred=[1, 2, 4, 5])
        self.check(50, 750, 50, [0], FIVE, barred=[4])
        self.check(50, FAR, 50, [1, 800], FIVE, barred=[4])
        self.check(10000, 40000, 10000, [1, 10000], barred=[6] * 99 + [0])

    def test_five_blocks_at_most(self):
        box = as_bytes("1\n" * 20)
        self.check(10000, 50000, 10000, [0], box)
        self.check(10000, FAR, 10000, [1, 60000], box)
        self.check(10000, FAR, 10000, [1, 60000], box, barred=range(15))
        self.check(10000, FAR, 10000, [1, 50000], box, barred=range(16))

    def test_order_of_the_refusals(self):
        for by in (-1, 0, 1):
            self.check(1, 0, by, [-1], [49] * 4097)
            self.check(1, 0, by, [-1], [10] * 4300)
            self.check(1, 0, by, [-2, 7, 0], [])
            self.check(1, 0, by, [-2, 6, 2], as_bytes("1\n1 h7\n"))
            self.check(1, 0, by, [-2, 8, 40], as_bytes("1\n" * 21))


class ManyBoxes(unittest.TestCase):
    def check_box(self, blocks, barred):
        box = as_bytes(box_text(blocks))
        by_length = ranked(blocks, 0, barred)
        for first in (-10, 0, 5, 10, 20, 30, 50, 80):
            for to in (0, 10, 49, 50, 51, 100, 250, 400):
                for by in (1, 5, 10, 20, 30, 70):
                    answer = gap(first, to, by, box, list(barred))
                    self.assertEqual(answer, expected(by_length, first, to, by), (blocks, first, to, by, barred))

    def test_small_boxes(self):
        for blocks in small_boxes():
            self.check_box(blocks, ())

    def test_small_boxes_with_barred_numbers(self):
        for place, blocks in enumerate(small_boxes()):
            self.check_box(blocks, (place % 5, 9, 9, (place * 3) % 7))

    def test_what_is_passed_over_is_built(self):
        for blocks in small_boxes()[:14]:
            box = as_bytes(box_text(blocks))
            for first in (10, 20):
                answer = gap(first, 1000, 10, box, [])
                self.assertEqual(answer[0], 1)
                for z in range(first, answer[1], 10):
                    self.assertGreater(stack(0, z, box, [])[0], 0, (blocks, z))
                self.assertEqual(stack(0, answer[1], box, []), [-5], (blocks, answer))


class TwentyBlocks(unittest.TestCase):
    def test_seconds(self):
        blocks = [(10 * (k + 1), -1, 1) for k in range(20)]
        box = as_bytes(box_text(blocks))
        by_length = ranked(blocks, 0)
        begun = time.monotonic()
        answers = [gap(first, FAR, by, box, []) for first, by in ((10, 10), (10, 1), (900, 10), (-FAR, 1))]
        self.assertLess(time.monotonic() - begun, 9)
        self.assertEqual(answers, [[1, 910], [1, 11], [1, 910], [1, -FAR]])
        self.assertEqual(answers[0], expected(by_length, 10, FAR, 10))

    def test_a_long_walk(self):
        lengths = list(range(1, 10)) + list(range(10, 100, 10)) + [99, 100]
        box = as_bytes("".join(f"{length}\n" for length in lengths))
        begun = time.monotonic()
        answer = gap(10000, FAR, 10000, box, [])
        self.assertLess(time.monotonic() - begun, 9)
        self.assertEqual(answer[0], 1)
        self.assertEqual(stack(0, answer[1], box, []), [-5])
        for z in range(10000, answer[1], 100000):
            self.assertGreater(stack(0, z, box, [])[0], 0, z)


if __name__ == "__main__":
    unittest.main()
