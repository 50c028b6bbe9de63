"""Calls 11 and 12, stack and next_of, and what promises 5 and 7 say of them."""

import time
import unittest

from gaugeblocks.sizes import next_of, stack
from gaugeblocks.stacks import best_stack, is_better
from reference import SIX_LINES, as_bytes, box_text, next_of as expected_next, ranked, small_boxes, stack as expected
from reference import stacks, true_of

SIX = as_bytes(SIX_LINES)
TWENTY_ALIKE = as_bytes("1 +-0.0001\n" * 20)
FAR = 2 ** 40


def box_of(*blocks):
    return as_bytes(box_text(blocks))


class Stack(unittest.TestCase):
    def check(self, z, answer, box=SIX, f=1, barred=()):
        self.assertEqual(stack(f, z, box, list(barred)), answer, (z, f, barred))

    def test_examples(self):
        self.check(331100, [5, 0, 1, 2, 4, 5])
        self.check(31000, [2, 2, 3])

    def test_each_block_alone(self):
        for number, length in enumerate((10000, 10100, 11000, 20000, 100000, 200000)):
            self.check(length, [1, number])

    def test_six_blocks_are_too_many(self):
        self.check(351100, [-5])
        self.check(331000, [4, 2, 3, 4, 5])
        self.check(341100, [5, 1, 2, 3, 4, 5])

    def test_fewest_blocks_first(self):
        # the one block has by far the most doubt
        box = box_of((10, 0, 0), (20, 0, 0), (30, -9, 4096), (30, -9, 4095))
        self.check(30, [1, 3], box)
        self.check(30, [1, 3], box, f=1000)
        self.check(30, [1, 2], box, barred=[3])
        self.check(30, [2, 0, 1], box, barred=[2, 3])
        self.check(60, [2, 2, 3], box)

    def test_then_the_least_doubt(self):
        box = box_of((10, -1, 1), (20, -2, 2), (10, 0, 1), (20, -1, 0), (10, 0, 0))
        self.check(30, [2, 3, 4], box)
        self.check(30, [2, 2, 3], box, barred=[4])
        self.check(30, [2, 0, 3], box, barred=[4, 2])
        self.check(20, [1, 3], box)
        self.check(20, [1, 1], box, barred=[3])

    def test_doubt_is_hi_less_lo(self):
        # far off, but sure
        box = box_of((1000, -1, 1), (1000, -500, -499), (1000, 700, 702))
        self.check(1000, [1, 1], box)
        self.check(2000, [2, 0, 1], box)
        self.check(1000, [1, 0], box, barred=[1])

    def test_then_the_lesser_number_where_the_rows_differ(self):
        self.check(30000, [3, 0, 1, 2], TWENTY_ALIKE)
        self.check(50000, [5, 0, 1, 2, 3, 4], TWENTY_ALIKE)
        box = box_of((20, 0, 0), (30, 0, 0), (10, 0, 0), (40, 0, 0))
        self.check(50, [2, 0, 1], box)
        # 20 + 30 + 10 has more blocks
        self.check(60, [2, 0, 3], box)
        self.check(50, [2, 2, 3], box, barred=[0])
        self.check(50, [2, 2, 3], box, barred=[1])
        # of 0 3 and 1 2 the first
        self.check(50, [2, 0, 3], box_of((10, 0, 0), (20, 0, 0), (30, 0, 0), (40, 0, 0)))

    def test_blocks_alike_are_two(self):
        box = box_of((10, 0, 0), (10, 0, 0))
        self.check(10, [1, 0], box)
        self.check(20, [2, 0, 1], box)
        self.check(10, [1, 1], box, barred=[0])
        self.check(20, [-5], box, barred=[0])

    def test_barred_numbers(self):
        self.check(31000, [-5], barred=[2])
        self.check(30100, [2, 1, 3])
        self.check(30100, [-5], barred=[1])
        self.check(31000, [2, 2, 3], barred=[6, 7, 4294967295])
        self.check(31000, [2, 2, 3], barred=[0, 0, 1, 1, 5, 5, 4, 4294967295, 0])
        self.check(31000, [-5], barred=[3, 3])
        self.check(31000, [2, 2, 3], barred=[6] * 100)
        self.check(31000, [-5], barred=[6] * 99 + [2])

    def test_all_blocks_barred(self):
        for z in (0, 10, 10000, 31000):
            self.check(z, [-5], barred=[0, 1, 2, 3, 4, 5])
            self.check(z, [-5], barred=list(range(99, -1, -1)))

    def test_lengths_that_none_has(self):
        for z in (0, -1, -10, -10000, -FAR, 1, 9, 10, 9999, 10001, 10005, 30999, 31001, 341101, 341110, 5000000, FAR):
            self.check(z, [-5])

    def test_films(self):
        for f in (0, 1, 999, 1000):
            self.check(31000, [2, 2, 3], f=f)
            self.check(5, [-5], f=f)
        for f in (1001, 1002, 65536, 4294967295):
            self.check(31000, [-3], f=f)
            self.check(0, [-3], f=f)

    def test_order_of_the_refusals(self):
        for f in (0, 1001):
            for z in (0, 31000):
                self.check(z, [-1], [49] * 4097, f=f)
                self.check(z, [-2, 7, 0], [], f=f)
                self.check(z, [-2, 8, 40], as_bytes("1\n" * 21), f=f)


class Next(unittest.TestCase):
    def check(self, z, up, answer, box=SIX, f=1, barred=()):
        self.assertEqual(next_of(f, z, up, box, list(barred)), answer, (z, up, f, barred))

    def test_examples(self):
        self.check(30500, 0, [2, 1, 3])
        self.check(30500, 1, [2, 2, 3])

    def test_any_other_number_is_up(self):
        for up in (1, 2, 256, 4294967295):
            self.check(30500, up, [2, 2, 3])

    def test_at_a_length_and_beside_it(self):
        for up in (0, 1):
            self.check(31000, up, [2, 2, 3])
            self.check(10000, up, [1, 0])
            self.check(341100, up, [5, 1, 2, 3, 4, 5])
        self.check(31001, 0, [2, 2, 3])
        self.check(30999, 1, [2, 2, 3])
        self.check(30999, 0, [2, 1, 3])
        self.check(31001, 1, [3, 0, 1, 2])

    def test_below_the_least(self):
        for z in (9999, 1, 0, -1, -10, -FAR):
            self.check(z, 0, [-5])
            self.check(z, 1, [1, 0])

    def test_above_the_greatest(self):
        for z in (341101, 351100, FAR):
            self.check(z, 0, [5, 1, 2, 3, 4, 5])
            self.check(z, 1, [-5])

    def test_barred_numbers(self):
        self.check(30500, 0, [2, 0, 3], barred=[1])
        self.check(30500, 1, [1, 4], barred=[2, 1])
        self.check(30500, 1, [2, 2, 3], barred=[6, 4294967295, 5, 5])
        self.check(9999, 1, [1, 1], barred=[0])
        self.check(FAR, 0, [5, 0, 1, 2, 3, 4], barred=[5])

    def test_all_blocks_barred(self):
        for z in (-FAR, 0, 30500, FAR):
            for up in (0, 1):
                self.check(z, up, [-5], barred=[0, 1, 2, 3, 4, 5])

    def test_the_best_of_its_length(self):
        box = box_of((10, -1, 1), (20, -2, 2), (10, 0, 1), (20, -1, 0), (10, 0, 0))
        self.check(31, 0, [2, 3, 4], box)
        self.check(29, 1, [2, 3, 4], box)
        self.check(29, 0, [1, 3], box)
        self.check(49999, 0, [4, 0, 1, 2, 3], TWENTY_ALIKE)
        self.check(40001, 1, [5, 0, 1, 2, 3, 4], TWENTY_ALIKE)

    def test_films(self):
        for f in (0, 1000):
            self.check(30500, 0, [2, 1, 3], f=f)
        for f in (1001, 4294967295):
            for z in (-FAR, 30500, FAR):
                self.check(z, 0, [-3], f=f)
                self.check(z, 1, [-3], f=f)

    def test_order_of_the_refusals(self):
        for f in (0, 1001):
            for up in (0, 1):
                self.check(-FAR, up, [-1], [49] * 4300, f=f)
                self.check(-FAR, up, [-2, 1, 0], [10], f=f)
                self.check(-FAR, up, [-2, 7, 1], [49], f=f)


class Better(unittest.TestCase):
    """Which of two stacks is better, whichever is seen first."""

    def test_all_pairs(self):
        blocks = [(10, -1, 1), (20, -2, 2), (10, 0, 1), (20, -1, 0), (10, 0, 0), (10, 0, 0)]
        rows = [list(row) for row in stacks(len(blocks))]
        for f in (0, 2):
            ranks = [(len(row), true_of(blocks, f, row)[2] - true_of(blocks, f, row)[1], row) for row in rows]
            for rank in ranks:
                for other in ranks:
                    self.assertEqual(is_better(blocks, f, rank[2], other[2]), rank < other, (rank, other))

    def test_stacks_in_another_order(self):
        blocks = [(10, 0, 0), (20, 0, 1), (30, 0, 0), (40, 0, 1), (10, 0, 0)]
        rows = [list(row) for row in stacks(len(blocks))]
        for length in range(10, 120, 10):
            best = best_stack(blocks, rows, 1, length)
            self.assertEqual(best_stack(blocks, rows[::-1], 1, length), best, length)


class ManyBoxes(unittest.TestCase):
    def check_box(self, blocks, f, barred):
        box = as_bytes(box_text(blocks))
        by_length = ranked(blocks, f, barred)
        for z in range(-15, 10 + 5 * max(length for length, lo, hi in blocks), 5):
            told = stack(f, z, box, list(barred))
            self.assertEqual(told, expected(by_length, z), (blocks, f, z, barred))
            if told[0] > 0:
                self.assertEqual(true_of(blocks, f, told[1:])[0], z)
                self.assertFalse(set(told[1:]) & set(barred))
            for up in (0, 1):
                told = next_of(f, z, up, box, list(barred))
                self.assertEqual(told, expected_next(by_length, z, up), (blocks, f, z, up, barred))

    def test_small_boxes(self):
        for blocks in small_boxes():
            self.check_box(blocks, 1, ())

    def test_small_boxes_with_barred_numbers(self):
        for place, blocks in enumerate(small_boxes()):
            self.check_box(blocks, 1000 * (place % 2), (place % 5, 9, 9, (place * 3) % 7))

    def test_a_larger_box(self):
        blocks = [(10 * (1 + k * k % 23), -(k % 4), k * 7 % 5) for k in range(11)]
        by_length = ranked(blocks, 3, (2, 7))
        box = as_bytes(box_text(blocks))
        for z in sorted(by_length)[::7]:
            self.assertEqual(stack(3, z, box, [2, 7]), expected(by_length, z), z)


class TwentyBlocks(unittest.TestCase):
    def check_seconds(self, box, z):
        begun = time.monotonic()
        answers = [stack(1, z, box, []), next_of(1, z, 0, box, []), next_of(1, z, 1, box, [])]
        self.assertLess(time.monotonic() - begun, 9)
        return answers

    def test_blocks_alike(self):
        for count in range(1, 6):
            row = [count] + list(range(count))
            self.assertEqual(self.check_seconds(TWENTY_ALIKE, 10000 * count), [row] * 3)

    def test_blocks_that_differ(self):
        blocks = [(10 * 2 ** k if k < 16 else 10 * 3 ** (k - 10), -(k % 3), k % 5) for k in range(20)]
        by_length = ranked(blocks, 1)
        box = as_bytes(box_text(blocks))
        for z in (10, 310, 315, 331110, 10 ** 6, 10 ** 7):
            wanted = [expected(by_length, z), expected_next(by_length, z, 0), expected_next(by_length, z, 1)]
            self.assertEqual(self.check_seconds(box, z), wanted)


if __name__ == "__main__":
    unittest.main()
