"""The call dep: which instruction has to do with which."""

import itertools
import unittest

from beginorder.block import answers
from tests.helpers import CLEAR, GREATEST, add, dep, joined, kind, plain, told


def bits(first, second, i=0, j=1):
    """The answer of dep for two instructions, each told as reads, writes, mem, place."""
    calls = [kind(0, 1, 1), add(0, *first), add(0, *second), dep(i, j)]
    given = answers(joined(calls))
    if given[:12] != plain(0, 0, 1) or len(given) != 16 or given[12] != 3 or given[14:] != [0, 0]:
        raise AssertionError(given)
    return given[13]


class BitsTest(unittest.TestCase):
    def test_whole_list(self):
        calls = [3, 0, 1, 1, 4, 0, 0, 0, 0, 1, 5, 4, 0, 0, 0, 1, 5, 0, 6, 0, 1, 6, 0, 2]
        given = [3, 0, 0, 0, 3, 0, 0, 0, 3, 1, 0, 0, 3, 1, 0, 0, 3, -1, 0, 0]
        self.assertEqual(answers(calls), given)

    def test_no_bit(self):
        self.assertEqual(bits(([], [], 0, 0), ([], [], 0, 0)), 0)
        self.assertEqual(bits(([1, 2], [3], 1, 4), ([1, 2], [5], 1, 4)), 0)
        self.assertEqual(bits(([1, 2], [3, 4], 2, 4), ([5, 6], [7, 8], 2, 5)), 0)

    def test_each_bit_alone(self):
        self.assertEqual(bits(([], [9], 0, 0), ([9], [], 0, 0)), 1)
        self.assertEqual(bits(([9], [], 0, 0), ([], [9], 0, 0)), 2)
        self.assertEqual(bits(([], [9], 0, 0), ([], [9], 0, 0)), 4)
        self.assertEqual(bits(([], [], 2, 9), ([], [], 2, 9)), 8)

    def test_bits_together(self):
        for wanted in range(16):
            first = ([1] if wanted & 2 else [], [2, 3], 2, 5)
            reads = [2] if wanted & 1 else [20]
            writes = ([1] if wanted & 2 else []) + ([3] if wanted & 4 else [])
            second = (reads, writes, 1, 5 if wanted & 8 else 6)
            self.assertEqual(bits(first, second), wanted)

    def test_a_register_in_any_place_of_its_row(self):
        for r, w in itertools.product(range(4), range(2)):
            reads, writes = [10, 11, 12, 13], [20, 21]
            reads[r] = 7
            writes[w] = 7
            none, other = [30, 31], [28, 29]
            self.assertEqual(bits((none, writes, 0, 0), (reads, other, 0, 0)), 1)
            self.assertEqual(bits((reads, other, 0, 0), (none, writes, 0, 0)), 2)
        for one, two in itertools.product(range(2), range(2)):
            first, second = [10, 11], [20, 21]
            first[one] = second[two] = 7
            self.assertEqual(bits(([], first, 0, 0), ([], second, 0, 0)), 4)

    def test_the_first_and_the_last_register(self):
        for number in (0, 31):
            self.assertEqual(bits(([], [number], 0, 0), ([number], [], 0, 0)), 1)
            self.assertEqual(bits(([number], [], 0, 0), ([], [number], 0, 0)), 2)
            self.assertEqual(bits(([], [number], 0, 0), ([], [number], 0, 0)), 4)

    def test_a_register_named_twice(self):
        self.assertEqual(bits(([], [9, 9], 0, 0), ([9, 9, 9, 9], [], 0, 0)), 1)
        self.assertEqual(bits(([9, 9], [], 0, 0), ([], [9, 9], 0, 0)), 2)
        self.assertEqual(bits(([], [9, 9], 0, 0), ([], [9, 9], 0, 0)), 4)

    def test_a_register_both_read_and_written(self):
        self.assertEqual(bits(([9], [9], 0, 0), ([9], [9], 0, 0)), 7)
        self.assertEqual(bits(([9], [9], 0, 0), ([9], [], 0, 0)), 1)
        self.assertEqual(bits(([9], [9], 0, 0), ([], [9], 0, 0)), 6)
        self.assertEqual(bits(([], [9], 0, 0), ([9], [9], 0, 0)), 5)
        self.assertEqual(bits(([9], [], 0, 0), ([9], [9], 0, 0)), 2)
        self.assertEqual(bits(([9], [9], 0, 0), ([8], [8], 0, 0)), 0)

    def test_both_only_read_one(self):
        self.assertEqual(bits(([9], [], 0, 0), ([9], [], 0, 0)), 0)


class MemoryTest(unittest.TestCase):
    def test_same_places_different_places_and_any(self):
        for a, b in itertools.product(range(3), range(3)):
            hit = 8 if (a, b) in ((1, 2), (2, 1), (2, 2)) else 0
            for p, q in itertools.product((0, 1, 14, 15, 255), repeat=2):
                wanted = hit if p == q or p == 255 or q == 255 else 0
                self.assertEqual(bits(([], [], a, p), ([], [], b, q)), wanted, (a, p, b, q))

    def test_no_memory_with_any_place_meets_nothing(self):
        for place in (0, 16, 254, 255, GREATEST):
            for mem in (0, 1, 2):
                for other in (3, 255):
                    self.assertEqual(bits(([], [], 0, place), ([], [], mem, other)), 0)
                    self.assertEqual(bits(([], [], mem, other), ([], [], 0, place)), 0)


class NumbersTest(unittest.TestCase):
    ONE = ([9], [9], 2, 9)

    def test_only_i_below_j_has_bits(self):
        self.assertEqual(bits(self.ONE, self.ONE, 0, 1), 15)
        self.assertEqual(bits(self.ONE, self.ONE, 1, 0), 0)
        self.assertEqual(bits(self.ONE, self.ONE, 0, 0), 0)
        self.assertEqual(bits(self.ONE, self.ONE, 1, 1), 0)

    def test_no_instruction(self):
        for far in (2, 3, 5, 6, 255, 2**32, 2**63, GREATEST):
            for i, j in ((0, far), (1, far), (far, 0), (far, 1), (far, far), (far, GREATEST), (GREATEST, far)):
                self.assertEqual(bits(self.ONE, self.ONE, i, j), -1, (i, j))

    def test_an_empty_block_has_none(self):
        calls = [dep(0, 0), dep(0, 1), dep(1, 0), dep(GREATEST, GREATEST)]
        self.assertEqual(answers(joined(calls)), plain(-1, -1, -1, -1))

    def test_a_cleared_one_is_none(self):
        calls = [kind(0, 1, 1), add(0, *self.ONE), add(0, *self.ONE), CLEAR, dep(0, 1), add(0, *self.ONE), dep(0, 0)]
        self.assertEqual(answers(joined(calls)), plain(0, 0, 1, 0, -1, 0, 0))

    def test_every_pair_of_a_full_block(self):
        # Each but the first reads what the one before it writes, and nothing else.
        block = [add(0, [k], [k + 1], 0, 0) for k in range(6)]
        pairs = list(itertools.product(range(7), range(7)))
        calls = [kind(0, 1, 1)] + block + [dep(i, j) for i, j in pairs]
        wanted = []
        for i, j in pairs:
            number = -1 if i == 6 or j == 6 else 1 if j == i + 1 else 0
            wanted += told(number)
        self.assertEqual(answers(joined(calls)), plain(0, *range(6)) + wanted)


if __name__ == "__main__":
    unittest.main()
