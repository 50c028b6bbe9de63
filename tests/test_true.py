"""Call 10, true_of, and promise 6: the true lengths of a stack are those that it tells."""

import itertools
import unittest

from gaugeblocks.sizes import true_of
from reference import SIX_LINES, as_bytes, box_text, small_boxes, stacks, true_of as expected

SIX = as_bytes(SIX_LINES)
NUMBERS_THE_BOX_HASNT = (6, 7, 20, 255, 256, 4294967295)


class TrueLengths(unittest.TestCase):
    def check(self, f, row, answer, box=SIX):
        self.assertEqual(true_of(f, box, row), answer, (f, row))

    def test_example(self):
        self.check(1, [0, 1, 2, 4, 5], [0, 331100, 331092, 331113])

    def test_one_block(self):
        self.check(1, [4], [0, 100000, 99999, 100002])
        self.check(1000, [4], [0, 100000, 99999, 100002])
        self.check(0, [0], [0, 10000, 9999, 10001])
        self.check(0, [5], [0, 200000, 199997, 200003])

    def test_films(self):
        self.check(0, [0, 3], [0, 30000, 29998, 30002])
        self.check(1, [0, 3], [0, 30000, 29998, 30003])
        self.check(1000, [0, 3], [0, 30000, 29998, 31002])
        self.check(1000, [0, 1, 2, 4, 5], [0, 331100, 331092, 335109])

    def test_rows_of_too_few_or_too_many(self):
        self.check(1, [], [-5])
        self.check(1, [0, 1, 2, 3, 4, 5], [-5])
        self.check(1, list(range(40)), [-5])
        self.check(1, [0, 1, 2, 3, 4, 5], [-5], as_bytes("1\n" * 20))
        self.check(1, [15, 16, 17, 18, 19], [0, 50000, 50000, 50004], as_bytes("1\n" * 20))

    def test_rows_that_do_not_rise(self):
        for row in ([1, 0], [0, 2, 1], [5, 4, 3, 2, 1], [0, 1, 2, 5, 4], [3, 0, 5]):
            self.check(1, row, [-5])

    def test_the_same_number_twice(self):
        for row in ([0, 0], [5, 5], [0, 1, 1], [0, 0, 1], [1, 2, 3, 3, 4]):
            self.check(1, row, [-5])

    def test_numbers_that_the_box_has_not(self):
        for number in NUMBERS_THE_BOX_HASNT:
            self.check(1, [number], [-5])
            self.check(1, [0, number], [-5])
            self.check(1, [number, 0], [-5])
            self.check(1, [0, number, 5], [-5])
        self.check(1, [1], [-5], as_bytes("1\n"))
        self.check(1, [0], [0, 10000, 10000, 10000], as_bytes("1\n"))

    def test_film_too_thick(self):
        self.check(1000, [0], [0, 10000, 9999, 10001])
        for f in (1001, 65536, 4294967295):
            self.check(f, [0], [-3])

    def test_order_of_the_refusals(self):
        for f in (0, 1001):
            for row in ([0], [], [1, 0]):
                self.check(f, row, [-1], [49] * 4097)
                self.check(f, row, [-2, 7, 0], [])
                self.check(f, row, [-2, 1, 4], as_bytes("2.50\n"))
                self.check(f, row, [-2, 6, 2], as_bytes("1\n1 h7\n"))
        for row in ([], [1, 0], [6], [0] * 40):
            self.check(1001, row, [-3])
            self.check(1000, row, [-5])


class ManyStacks(unittest.TestCase):
    def test_all_stacks_of_small_boxes(self):
        for blocks in small_boxes():
            box = as_bytes(box_text(blocks))
            for f in (0, 1, 37):
                for row in stacks(len(blocks)):
                    self.assertEqual(true_of(f, box, list(row)), [0] + list(expected(blocks, f, row)), (blocks, row))

    def test_all_rows_of_small_numbers(self):
        blocks = [(10, 0, 0), (20, -1, 1), (30, 0, 5)]
        box = as_bytes(box_text(blocks))
        told = stacks(3)
        for size in range(5):
            for row in itertools.product(range(4), repeat=size):
                answer = [0] + list(expected(blocks, 2, row)) if row in told else [-5]
                self.assertEqual(true_of(2, box, list(row)), answer, row)

    def test_true_lengths_and_films(self):
        """Promise 6, by all true lengths of the blocks and all films."""
        blocks = [(10, -1, 1), (20, 0, 2), (10, 1, 1), (30, -2, -1)]
        box = as_bytes(box_text(blocks))
        for row in stacks(4):
            lengths = [range(blocks[k][0] + blocks[k][1], blocks[k][0] + blocks[k][2] + 1) for k in row]
            for f in (0, 1, 3):
                films = [range(f + 1)] * (len(row) - 1)
                sums = [sum(parts) for parts in itertools.product(*lengths, *films)]
                self.assertEqual(true_of(f, box, list(row))[2:], [min(sums), max(sums)], (f, row))


if __name__ == "__main__":
    unittest.main()
