"""The call bound: how long the block would take whatever width and units."""

import itertools
import unittest

from beginorder.block import answers
from tests.helpers import BOUND, CLEAR, add, joined, kind, plain, split_answers, units, width

ALONE = ([], [], 0, 0)


class BoundTest(unittest.TestCase):
    def check(self, calls, number):
        self.assertEqual(split_answers(answers(joined(calls + [BOUND])))[-1], (number, []), calls)

    def test_whole_list(self):
        calls = [3, 0, 1, 3, 4, 0, 0, 0, 0, 1, 5, 4, 0, 0, 0, 1, 5, 0, 7]
        self.assertEqual(answers(calls), plain(0, 0, 1, 6))

    def test_an_empty_block(self):
        self.assertEqual(answers([7]), [3, 0, 0, 0])
        self.check([kind(0, 16, 32)], 0)
        self.check([kind(0, 16, 32), add(0, *ALONE), CLEAR], 0)

    def test_one_instruction(self):
        for latency in (1, 2, 32):
            self.check([kind(0, 16, latency), add(0, [1], [1], 2, 255)], latency)

    def test_no_bits_is_the_longest_latency(self):
        latencies = [3, 1, 32, 7, 9, 2]
        kinds = [kind(0, 16, latency) for latency in latencies]
        self.check(kinds + [add(k, *ALONE) for k in range(6)], 32)
        self.check(kinds + [add(k, *ALONE) for k in (5, 3, 0)], 7)

    def test_a_chain(self):
        for latency in (1, 5, 32):
            block = [add(0, [k], [k + 1], 0, 0) for k in range(6)]
            self.check([kind(0, 1, latency)] + block, 6 * latency)

    def test_a_chain_through_memory(self):
        self.check([kind(0, 1, 4)] + [add(0, [], [], 2, 3)] * 6, 24)
        self.check([kind(0, 1, 4)] + [add(0, [], [], 1, 3)] * 6, 4)

    def test_a_chain_that_needs_0_cycles(self):
        # Each writes what the one before it reads: all might begin at once.
        block = [add(0, [k + 1], [k], 0, 0) for k in range(6)]
        self.check([kind(0, 16, 5)] + block, 5)

    def test_a_chain_of_writers(self):
        self.check([kind(0, 1, 4)] + [add(0, [], [3], 0, 0)] * 6, 9)

    def test_two_ways_the_longer_decides(self):
        kinds = [kind(0, 1, 10), kind(0, 1, 2), kind(0, 1, 3)]
        block = [add(0, [], [1], 0, 0), add(1, [], [2], 0, 0), add(1, [2], [3], 0, 0), add(2, [1, 3], [], 0, 0)]
        self.check(kinds + block, 13)

    def test_a_long_latency_beside_a_chain(self):
        kinds = [kind(0, 1, 2), kind(0, 1, 32)]
        self.check(kinds + [add(0, [], [1], 0, 0), add(0, [1], [], 0, 0), add(1, *ALONE)], 32)
        self.check(kinds + [add(0, [], [1], 0, 0), add(0, [1], [], 0, 0), add(1, [1], [], 0, 0)], 34)

    def test_one_that_waits_does_not_hold_up_those_added_later(self):
        # In the given order the third can't begin before the second; for the bound it can.
        kinds = [kind(0, 1, 10), kind(1, 1, 1), kind(2, 1, 12)]
        self.check(kinds + [add(0, [], [1], 0, 0), add(1, [1], [], 0, 0), add(2, *ALONE)], 12)

    def test_width_and_units_do_not_matter(self):
        block = [kind(0, 16, 4)] + [add(0, *ALONE)] * 4 + [add(0, [], [1], 0, 0), add(0, [1], [], 0, 0)]
        for w, n in itertools.product((1, 2, 3, 4), (1, 2, 3, 4)):
            self.check(block + [width(w), units(0, n)], 8)


if __name__ == "__main__":
    unittest.main()
