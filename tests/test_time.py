"""The call time: when each instruction begins in an order, and how many cycles that takes."""

import itertools
import unittest

from beginorder.block import answers
from tests.helpers import BOUND, GREATEST, INIT, add, joined, kind, plain, split_answers, time, told, units, width

ALONE = ([], [], 0, 0)


def last_answer(calls):
    return split_answers(answers(joined(calls)))[-1]


class TimeTest(unittest.TestCase):
    def check(self, calls, number, row=()):
        self.assertEqual(last_answer(calls), (number, list(row)), calls)


class NeededCyclesTest(unittest.TestCase):
    """Two instructions on a machine that is wide enough: the second begins when the first lets it."""

    def check(self, first, second, latencies, needed):
        calls = [
            width(4), kind(0, 1, latencies[0]), kind(1, 1, latencies[1]), add(0, *first), add(1, *second),
            time([0, 1]), BOUND, time([1, 0]),
        ]
        cycles = max(latencies[0], needed + latencies[1])
        found = split_answers(answers(joined(calls)))
        self.assertEqual(found[-3:], [(cycles, [0, needed]), (cycles, []), (-2, [])], (first, second, latencies))

    def test_bit_1_is_the_latency_of_the_first(self):
        for latency, other in itertools.product((1, 2, 31, 32), (1, 7, 32)):
            self.check(([], [5], 0, 0), ([5], [], 0, 0), (latency, other), latency)

    def test_bit_2_alone_needs_none(self):
        for latency, other in itertools.product((1, 2, 32), (1, 7, 32)):
            self.check(([5], [], 0, 0), ([], [5], 0, 0), (latency, other), 0)

    def test_bit_4_is_what_lets_the_later_result_come_later(self):
        for latency, other, needed in (
            (1, 1, 1), (2, 1, 2), (32, 1, 32), (32, 32, 1), (5, 3, 3), (5, 5, 1),
            (5, 6, 0), (1, 2, 0), (31, 32, 0),
            (5, 7, 0), (1, 3, 0), (1, 32, 0),
        ):
            self.check(([], [5], 0, 0), ([], [5], 0, 0), (latency, other), needed)

    def test_bit_8_where_the_first_writes(self):
        for latency, other, mem in itertools.product((1, 2, 32), (1, 7, 32), (1, 2)):
            self.check(([], [], 2, 3), ([], [], mem, 3), (latency, other), latency)
            self.check(([], [], 2, 255), ([], [], mem, 3), (latency, other), latency)
            self.check(([], [], 2, 3), ([], [], mem, 255), (latency, other), latency)

    def test_bit_8_where_only_the_second_writes(self):
        for latency, other in itertools.product((1, 2, 32), (1, 7, 32)):
            self.check(([], [], 1, 3), ([], [], 2, 3), (latency, other), 0)

    def test_the_greatest_of_several(self):
        for latency, other in itertools.product((1, 4, 32), (1, 4, 5, 32)):
            later = max(0, latency + 1 - other)
            both = (latency, other)
            self.check(([5], [5], 0, 0), ([5], [5], 0, 0), both, latency)
            self.check(([], [5], 0, 0), ([5], [5], 0, 0), both, latency)
            self.check(([5], [5], 0, 0), ([], [5], 0, 0), both, later)
            self.check(([5], [], 2, 1), ([], [5], 1, 1), both, latency)
            self.check(([5], [], 1, 1), ([], [5], 2, 1), both, 0)
            self.check(([], [5], 1, 1), ([], [5], 2, 1), both, later)
            self.check(([], [5], 2, 1), ([], [5], 2, 1), both, latency)
            self.check(([], [5], 1, 1), ([5], [], 2, 1), both, latency)
            self.check(([5], [5], 2, 1), ([5], [5], 2, 1), both, latency)

    def test_memory_that_does_not_meet_needs_none(self):
        calls = [width(4), units(0, 2), kind(0, 1, 9), add(0, [], [], 2, 1), add(0, [], [], 2, 2), time([1, 0])]
        self.assertEqual(last_answer(calls), (9, [0, 0]))


class BeginsTest(TimeTest):
    def test_whole_list(self):
        calls = [3, 0, 1, 3, 4, 0, 0, 0, 0, 1, 5, 4, 0, 0, 0, 1, 5, 0, 8, 2, 0, 1, 8, 2, 1, 0, 8, 1, 0]
        given = plain(0, 0, 1) + [5, 6, 0, 2, 0, 3] + [3, -2, 0, 0] + [3, -1, 0, 0]
        self.assertEqual(answers(calls), given)

    def test_the_list_is_by_places_of_the_order(self):
        calls = [kind(0, 5, 1), kind(1, 1, 9), add(0, *ALONE), add(0, *ALONE), add(1, *ALONE)]
        self.check(calls + [time([0, 1, 2])], 15, [0, 5, 6])
        self.check(calls + [time([1, 0, 2])], 15, [0, 5, 6])
        self.check(calls + [time([2, 1, 0])], 9, [0, 1, 6])
        self.check(calls + [time([1, 2, 0])], 10, [0, 1, 5])

    def test_width(self):
        begins = {1: [0, 1, 2, 3, 4, 5], 2: [0, 0, 1, 1, 2, 2], 3: [0, 0, 0, 1, 1, 1], 4: [0, 0, 0, 0, 1, 1]}
        block = [kind(k, 1, 2) for k in range(6)] + [add(k, *ALONE) for k in range(6)]
        for n, row in begins.items():
            for order in ([0, 1, 2, 3, 4, 5], [5, 3, 1, 4, 2, 0]):
                self.check(block + [width(n), time(order)], row[-1] + 2, row)

    def test_width_counts_the_cycle_alone(self):
        # The second waits for the first; the cycle in which it begins has room for two again.
        calls = [width(2)] + [kind(k, 1, 4) for k in range(5)]
        calls += [add(0, [], [1], 0, 0), add(1, [1], [], 0, 0), add(2, *ALONE), add(3, *ALONE), add(4, *ALONE)]
        self.check(calls + [time([0, 1, 2, 3, 4])], 9, [0, 4, 4, 5, 5])
        self.check(calls + [time([0, 2, 1, 3, 4])], 9, [0, 0, 4, 4, 5])

    def test_none_begins_before_the_one_that_precedes_it(self):
        calls = [width(4)] + [kind(k, 1, 32) for k in range(3)]
        calls += [add(0, [], [1], 0, 0), add(1, [1], [], 0, 0), add(2, *ALONE)]
        self.check(calls + [time([0, 1, 2])], 64, [0, 32, 32])
        self.check(calls + [time([0, 2, 1])], 64, [0, 0, 32])
        self.check(calls + [time([2, 0, 1])], 64, [0, 0, 32])

    def test_it_waits_for_every_one_that_it_stays_behind(self):
        calls = [width(4), kind(0, 1, 32), kind(1, 1, 2), kind(2, 1, 1)]
        calls += [add(0, [], [1], 0, 0), add(1, [], [2], 0, 0), add(2, [1, 2], [], 0, 0)]
        self.check(calls + [time([0, 1, 2])], 33, [0, 0, 32])
        self.check(calls + [time([1, 0, 2])], 33, [0, 0, 32])

    def test_it_waits_not_for_those_that_it_need_not_stay_behind(self):
        calls = [width(4), kind(0, 1, 32), kind(1, 1, 1), kind(2, 1, 1)]
        calls += [add(0, [1], [2], 0, 0), add(1, [], [1], 0, 0), add(2, [3], [], 0, 0)]
        self.check(calls + [time([0, 1, 2])], 32, [0, 0, 0])

    def test_the_longest_latency_decides_not_the_last_place(self):
        calls = [kind(0, 1, 32), kind(1, 1, 1), add(0, *ALONE), add(1, *ALONE)]
        self.check(calls + [time([0, 1])], 32, [0, 1])
        self.check(calls + [time([1, 0])], 33, [0, 1])

    def test_one_instruction(self):
        for latency in (1, 32):
            self.check([kind(7, 16, latency), add(0, [1], [1], 2, 255), time([0])], latency, [0])


class UnitsTest(TimeTest):
    def test_a_unit_is_busy(self):
        for busy in (1, 2, 15, 16):
            calls = [width(4), kind(3, busy, 1)] + [add(0, *ALONE)] * 3
            self.check(calls + [time([0, 1, 2])], 2 * busy + 1, [0, busy, 2 * busy])

    def test_as_many_as_the_class_has_units(self):
        for n, row in ((1, [0, 16, 32, 48, 64, 80]), (2, [0, 0, 16, 16, 32, 32]),
                       (3, [0, 0, 0, 16, 16, 16]), (4, [0, 0, 0, 0, 16, 16])):
            calls = [width(4), units(7, n), kind(7, 16, 1)] + [add(0, *ALONE)] * 6
            self.check(calls + [time([5, 4, 3, 2, 1, 0])], row[-1] + 1, row)

    def test_each_class_has_its_own(self):
        calls = [width(4), units(0, 4)] + [kind(c, 16, 1) for c in range(8)]
        for c in range(1, 8):
            self.check(calls + [add(c, *ALONE), add(c, *ALONE), time([0, 1])], 17, [0, 16])
            self.check(calls + [add(c, *ALONE), add(c - 1, *ALONE), time([0, 1])], 1, [0, 0])
        self.check(calls + [add(0, *ALONE), add(0, *ALONE), time([0, 1])], 1, [0, 0])

    def test_two_kinds_of_one_class_share_its_units(self):
        calls = [width(4), kind(2, 5, 1), kind(2, 9, 1), add(0, *ALONE), add(1, *ALONE), add(0, *ALONE)]
        self.check(calls + [time([0, 1, 2])], 15, [0, 5, 14])
        self.check(calls + [time([1, 0, 2])], 15, [0, 9, 14])

    def test_the_unit_that_is_free_first_is_taken(self):
        calls = [width(4), units(0, 2), kind(0, 16, 1), kind(0, 3, 1)]
        calls += [add(0, *ALONE), add(1, *ALONE), add(1, *ALONE), add(1, *ALONE), add(0, *ALONE), add(1, *ALONE)]
        self.check(calls + [time([0, 1, 2, 3, 4, 5])], 17, [0, 0, 3, 6, 9, 16])
        self.check(calls + [time([1, 0, 2, 3, 4, 5])], 17, [0, 0, 3, 6, 9, 16])

    def test_a_unit_has_nothing_to_do_with_the_latency(self):
        calls = [kind(0, 1, 32), kind(0, 16, 1), add(0, *ALONE), add(1, *ALONE), add(0, *ALONE)]
        self.check(calls + [time([0, 1, 2])], 49, [0, 1, 17])

    def test_the_width_holds_where_units_are_free(self):
        calls = [units(0, 4), kind(0, 1, 1)] + [add(0, *ALONE)] * 3
        self.check(calls + [time([0, 1, 2])], 3, [0, 1, 2])
        self.check(calls + [width(2), time([0, 1, 2])], 2, [0, 0, 1])

    def test_an_instruction_behind_one_that_waits_for_a_unit(self):
        calls = [width(4), kind(0, 16, 1), kind(1, 1, 1), add(0, *ALONE), add(0, *ALONE), add(1, *ALONE)]
        self.check(calls + [time([0, 1, 2])], 17, [0, 16, 16])
        self.check(calls + [time([0, 2, 1])], 17, [0, 0, 16])


class RefusalTest(TimeTest):
    THREE = [kind(0, 1, 1), add(0, [], [1], 0, 0), add(0, [1], [], 0, 0), add(0, *ALONE)]

    def test_no_order(self):
        for order in (
            [], [0], [0, 1], [1, 2], [0, 0, 1], [0, 1, 1], [2, 2, 2], [0, 1, 3], [1, 2, 3], [0, 1, 2, 2],
            [0, 1, 2, 3], [0, 1, 2, 0, 1, 2], [0, 1, GREATEST], [GREATEST], [GREATEST, 0, 1], [0, 1, 2**64 - 3],
            [0, 1, 2, GREATEST], [2**32, 1, 2], [0, 1, 2**63], [0] * 100, [GREATEST] * 100,
            list(range(100)), [0, 1, 2] * 33, [0, 1, 2] + [GREATEST] * 97,
        ):
            self.check(self.THREE + [time(order)], -1)

    def test_not_accepted(self):
        for order in itertools.permutations(range(3)):
            if order.index(0) < order.index(1):
                self.check(self.THREE + [time(order)], 3, [0, 1, 2])
            else:
                self.check(self.THREE + [time(order)], -2)

    def test_no_order_goes_before_not_accepted(self):
        for order in ([1, 0], [1, 0, 0], [1, 0, 3], [1, 0, 2, 2], [2, 1]):
            self.check(self.THREE + [time(order)], -1)

    def test_each_bit_alone_keeps_it_behind(self):
        for first, second in (
            (([], [5], 0, 0), ([5], [], 0, 0)),
            (([5], [], 0, 0), ([], [5], 0, 0)),
            (([], [5], 0, 0), ([], [5], 0, 0)),
            (([], [], 1, 4), ([], [], 2, 4)),
            (([], [], 2, 4), ([], [], 1, 255)),
            (([], [], 2, 255), ([], [], 2, 4)),
        ):
            calls = [kind(0, 1, 1), add(0, *first), add(0, *second)]
            self.check(calls + [time([1, 0])], -2)
            calls = [kind(0, 1, 1), add(0, *first)] + [add(0, *ALONE)] * 4 + [add(0, *second)]
            self.check(calls + [time([5, 1, 2, 3, 4, 0])], -2)
            self.check(calls + [time([4, 3, 5, 2, 1, 0])], -2)
            self.assertEqual(len(last_answer(calls + [time([4, 3, 2, 1, 0, 5])])[1]), 6)

    def test_without_bits_every_order_is_accepted(self):
        block = [kind(0, 1, 1)] + [add(0, [1, 2], [k + 3], 1, 4) for k in range(4)]
        for order in itertools.permutations(range(4)):
            self.check(block + [time(order)], 4, [0, 1, 2, 3])

    def test_the_empty_block(self):
        self.assertEqual(answers(time([])), [3, 0, 0, 0])
        self.assertEqual(answers(joined(self.THREE + [INIT, time([])])), plain(0, 0, 1, 2, 0, 0))
        for order in ([0], [0, 1], [1], [GREATEST], [0] * 100):
            self.assertEqual(answers(time(order)), told(-1), order)


if __name__ == "__main__":
    unittest.main()
