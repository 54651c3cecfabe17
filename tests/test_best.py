"""The call best: the shortest of all accepted orders."""

import itertools
import unittest

from beginorder.block import answers
from tests.helpers import BEST, BOUND, CLEAR, add, joined, kind, plain, split_answers, time, units, width

ALONE = ([], [], 0, 0)


def found_by(calls):
    return split_answers(answers(joined(calls)))


class BestTest(unittest.TestCase):
    def check(self, calls, number, order, begins):
        self.assertEqual(found_by(calls + [BEST])[-1], (number, list(order) + list(begins)), calls)

    def check_against_every_order(self, calls, size):
        """Holds best against `time` at all orders, the given one and the bound."""
        orders = [list(order) for order in itertools.permutations(range(size))]
        asked = [time(order) for order in orders]
        times = []
        while asked:
            times += found_by(calls + asked[:300])[len(calls):]
            asked = asked[300:]
        best, bound = found_by(calls + [BEST, BOUND])[-2:]
        accepted = [(t[0], order, t[1]) for order, t in zip(orders, times, strict=True) if t[0] >= 0]
        # A tuple is smaller by its cycles first, then by its order at the first place where they differ.
        cycles, order, begins = min(accepted)
        self.assertEqual(best, (cycles, order + begins), calls)
        self.assertEqual(accepted[0][1], list(range(size)))
        self.assertLessEqual(best[0], accepted[0][0])
        self.assertGreaterEqual(best[0], bound[0])
        again = found_by(calls + [time(best[1][:size])])[-1]
        self.assertEqual(again, (best[0], best[1][size:]))
        return len(accepted)


class PlainTest(BestTest):
    def test_whole_list(self):
        calls = [3, 0, 1, 3, 4, 0, 0, 0, 0, 1, 5, 4, 0, 0, 0, 1, 5, 0, 4, 0, 0, 0, 0, 0, 9]
        self.assertEqual(answers(calls), plain(0, 0, 1, 2) + [9, 6, 0, 6, 0, 2, 1, 0, 1, 3])

    def test_an_empty_block(self):
        self.assertEqual(answers([9]), [3, 0, 0, 0])
        self.check([kind(0, 1, 1), add(0, *ALONE), CLEAR], 0, [], [])

    def test_one_instruction(self):
        for busy, latency in itertools.product((1, 16), (1, 32)):
            self.check([kind(7, busy, latency), add(0, [1], [1], 2, 255)], latency, [0], [0])

    def test_two_that_may_change_places(self):
        kinds = [kind(0, 1, 1), kind(1, 1, 5)]
        self.check(kinds + [add(0, *ALONE), add(1, *ALONE)], 5, [1, 0], [0, 1])
        self.check(kinds + [add(1, *ALONE), add(0, *ALONE)], 5, [0, 1], [0, 1])

    def test_two_that_may_not(self):
        kinds = [kind(0, 1, 1), kind(1, 1, 5)]
        self.check(kinds + [add(0, [1], [], 0, 0), add(1, [], [1], 0, 0)], 6, [0, 1], [0, 1])

    def test_the_given_order_is_not_the_best(self):
        # Two loads, each with its use behind it: both loads go first.
        calls = [kind(0, 1, 4), kind(1, 1, 1)]
        calls += [add(0, [], [1], 1, 0), add(1, [1], [2], 0, 0), add(0, [], [3], 1, 1), add(1, [3], [4], 0, 0)]
        self.assertEqual(found_by(calls + [time([0, 1, 2, 3])])[-1], (10, [0, 4, 5, 9]))
        self.check(calls, 6, [0, 2, 1, 3], [0, 1, 4, 5])

    def test_the_last_goes_first(self):
        calls = [kind(0, 1, 1), kind(1, 1, 32)] + [add(0, *ALONE)] * 5 + [add(1, *ALONE)]
        self.check(calls, 32, [5, 0, 1, 2, 3, 4], range(6))

    def test_only_the_turned_order_is_best(self):
        calls = [kind(k, 1, k + 1) for k in range(6)] + [add(k, *ALONE) for k in range(6)]
        self.check(calls, 6, [5, 4, 3, 2, 1, 0], range(6))

    def test_small_numbers_go_between_where_there_is_time(self):
        calls = [kind(k, 1, 2 * k + 1) for k in range(6)] + [add(k, *ALONE) for k in range(6)]
        self.check(calls, 11, [5, 0, 4, 1, 3, 2], range(6))

    def test_without_any_bits_and_all_alike(self):
        calls = [kind(0, 1, 1)] + [add(0, *ALONE)] * 6
        self.check(calls, 6, range(6), range(6))
        self.check(calls + [width(4)], 6, range(6), range(6))
        self.check(calls + [width(4), units(0, 4)], 2, range(6), [0, 0, 0, 0, 1, 1])

    def test_with_all_bits(self):
        calls = [kind(0, 1, 32)] + [add(0, [5], [5], 2, 255)] * 6
        self.check(calls, 192, range(6), range(0, 192, 32))
        self.check(calls + [width(4), units(0, 4)], 192, range(6), range(0, 192, 32))

    def test_a_chain_of_bit_2_stays_behind(self):
        # The last is the longest, but each must stay behind the one before it.
        kinds = [kind(k, 1, k + 1) for k in range(6)]
        calls = kinds + [add(k, [k + 1], [k], 0, 0) for k in range(6)]
        self.check(calls, 11, range(6), range(6))
        self.check(calls + [width(4)], 7, range(6), [0, 0, 0, 0, 1, 1])


class TiesTest(BestTest):
    def test_the_smaller_number_at_the_first_place(self):
        calls = [kind(0, 1, 1), kind(1, 1, 9), add(0, *ALONE), add(0, *ALONE), add(1, *ALONE)]
        # Both of [2, 0, 1] and [2, 1, 0] take 9.
        self.check(calls, 9, [2, 0, 1], [0, 1, 2])

    def test_the_given_order_wins_a_tie(self):
        calls = [kind(0, 1, 3), kind(1, 1, 3), add(0, *ALONE), add(1, *ALONE), add(0, *ALONE), add(1, *ALONE)]
        self.check(calls, 6, [0, 1, 2, 3], [0, 1, 2, 3])
        self.check(calls + [width(2)], 4, [0, 1, 2, 3], [0, 0, 1, 1])

    def test_a_later_place_decides(self):
        # The last goes first; 2 may stand at the second or the third place, 1 and 0 change places freely.
        calls = [kind(0, 1, 1), kind(1, 1, 8), kind(2, 1, 10)]
        calls += [add(0, *ALONE), add(0, *ALONE), add(1, *ALONE), add(2, *ALONE)]
        self.check(calls, 10, [3, 0, 2, 1], range(4))

    def test_not_the_smaller_begins_but_the_smaller_number(self):
        # [0, 1] begins at 0, 3 and [1, 0] at 0, 1, but both take as long.
        calls = [kind(0, 3, 9), kind(0, 1, 6), add(0, *ALONE), add(1, *ALONE)]
        self.assertEqual(found_by(calls + [time([0, 1])])[-1], (9, [0, 3]))
        self.check(calls, 9, [0, 1], [0, 3])


class EveryOrderTest(BestTest):
    def test_a_block_of_6_without_bits(self):
        kinds = [kind(0, 3, 7), kind(0, 1, 9), kind(1, 16, 2), kind(1, 5, 30), kind(2, 2, 4), kind(0, 6, 1)]
        block = [add(k, *ALONE) for k in range(6)]
        for w, n in itertools.product((1, 2, 4), (1, 2)):
            calls = kinds + block + [width(w), units(0, n), units(1, n)]
            self.assertEqual(self.check_against_every_order(calls, 6), 720)

    def test_a_block_of_6_with_all_bits(self):
        calls = [kind(0, 2, 3)] + [add(0, [5], [5], 2, 255)] * 6
        self.assertEqual(self.check_against_every_order(calls, 6), 1)

    def test_blocks_of_6_with_some_bits(self):
        kinds = [width(2), kind(0, 1, 4), kind(1, 3, 2), kind(0, 2, 1)]
        for shift in range(6):
            block = [
                add((k + shift) % 3, [k % 4, 7], [(k * shift + 1) % 5], (k + shift) % 3, k % 2) for k in range(6)
            ]
            self.check_against_every_order(kinds + block, 6)

    def test_smaller_blocks(self):
        for size in range(6):
            kinds = [kind(k % 2, 1 + k, 6 - k) for k in range(6)]
            block = [add(5 - k, [k % 3], [10 + k], k % 3, 255) for k in range(size)]
            self.check_against_every_order(kinds + block, size)


if __name__ == "__main__":
    unittest.main()
