"""The calls init, width, units, kind and add, by what `answers` gives back."""

import itertools
import unittest

from beginorder.block import answers
from tests.helpers import GREATEST, INIT, add, joined, kind, plain, units, width


class CallsTest(unittest.TestCase):
    def check(self, calls, *numbers):
        given = answers(joined(calls))
        self.assertEqual(given, plain(*numbers), calls)
        self.assertIs(type(given), list)
        self.assertEqual({type(number) for number in given}, {int})


class InitTest(CallsTest):
    def test_answers_0(self):
        self.assertEqual(answers([0]), [3, 0, 0, 0])

    def test_kinds_are_numbered_from_0_again(self):
        self.check([kind(0, 1, 1), kind(0, 1, 1), INIT, kind(0, 1, 1)], 0, 1, 0, 0)

    def test_kinds_are_gone(self):
        self.check([kind(0, 1, 1), INIT, add(0, [], [], 0, 0)], 0, 0, -1)

    def test_instructions_are_gone(self):
        one = add(0, [], [], 0, 0)
        self.check([kind(0, 1, 1), one, one, INIT, kind(0, 1, 1), one], 0, 0, 1, 0, 0, 0)

    def test_there_is_room_again(self):
        kinds = [kind(0, 1, 1)] * 16
        block = [add(15, [], [], 0, 0)] * 6
        once = [*range(16), *range(6)]
        self.check(kinds + block + [INIT] + kinds + block, *once, 0, *once)


class WidthTest(CallsTest):
    def test_whole_list(self):
        self.assertEqual(answers([1, 2, 1, 5]), [3, 0, 0, 0, 3, -1, 0, 0])

    def test_edges(self):
        for n in (1, 2, 3, 4):
            self.check([width(n)], 0)
        for n in (0, 5, 6, 255, 2**32 + 1, 2**63, GREATEST):
            self.check([width(n)], -1)


class UnitsTest(CallsTest):
    def test_whole_list(self):
        self.assertEqual(answers([2, 3, 4, 2, 8, 4]), [3, 0, 0, 0, 3, -1, 0, 0])

    def test_edges(self):
        ns = (0, 1, 2, 3, 4, 5, 2**32 + 1, GREATEST)
        cs = (0, 1, 2, 3, 4, 5, 6, 7, 8, 9, 2**32, GREATEST)
        for c, n in itertools.product(cs, ns):
            self.check([units(c, n)], 0 if c <= 7 and 1 <= n <= 4 else -1)


class KindTest(CallsTest):
    def test_whole_list(self):
        calls = [3, 0, 1, 1, 3, 7, 16, 32, 3, 8, 1, 1]
        self.assertEqual(answers(calls), [3, 0, 0, 0, 3, 1, 0, 0, 3, -1, 0, 0])

    def test_edges(self):
        cs = (0, 1, 7, 8, GREATEST)
        busies = (0, 1, 2, 15, 16, 17, GREATEST)
        latencies = (0, 1, 2, 31, 32, 33, GREATEST)
        for c, busy, latency in itertools.product(cs, busies, latencies):
            right = c <= 7 and 1 <= busy <= 16 and 1 <= latency <= 32
            self.check([kind(c, busy, latency)], 0 if right else -1)

    def test_16_and_not_17(self):
        self.check([kind(n % 8, 1, 1) for n in range(18)], *range(16), -1, -1)

    def test_the_same_again_is_a_new_kind(self):
        self.check([kind(2, 3, 4)] * 3, 0, 1, 2)

    def test_a_refused_one_takes_no_number(self):
        wrong = [kind(8, 1, 1), kind(0, 0, 1), kind(0, 17, 1), kind(0, 1, 0), kind(0, 1, 33)]
        calls = [kind(0, 1, 1)] + wrong + [kind(0, 1, 1)]
        self.check(calls, 0, -1, -1, -1, -1, -1, 1)

    def test_a_refused_one_takes_no_room(self):
        calls = [kind(8, 1, 1)] * 20 + [kind(0, 1, 1)] * 17
        self.check(calls, *[-1] * 20, *range(16), -1)


class AddTest(CallsTest):
    def check_one(self, reads, writes, mem, place, right):
        self.check([kind(0, 1, 1), add(0, reads, writes, mem, place)], 0, 0 if right else -1)

    def test_whole_list(self):
        calls = [3, 0, 1, 1, 4, 0, 2, 255, 2, 30, 31, 1, 5, 4, 1, 0, 0, 0, 0]
        self.assertEqual(answers(calls), [3, 0, 0, 0, 3, 0, 0, 0, 3, -1, 0, 0])

    def test_rows_and_numbers_stand_as_the_interface_says(self):
        # Were mem, place or a row taken from elsewhere, one of these would turn.
        self.check([kind(0, 1, 1), add(0, [20, 21, 22], [23], 1, 15)], 0, 0)
        self.check([kind(0, 1, 1), add(0, [1], [2, 3, 4], 1, 15)], 0, -1)
        self.check([kind(0, 1, 1), add(0, [1], [2], 15, 1)], 0, -1)

    def test_the_6th_and_not_the_7th(self):
        calls = [kind(0, 1, 1)] + [add(0, [1], [2], 1, 3)] * 8
        self.check(calls, 0, 0, 1, 2, 3, 4, 5, -1, -1)

    def test_kind_is_there(self):
        self.check([add(0, [], [], 0, 0)], -1)
        for number in (0, 1, 2, 3, 15, 16, GREATEST):
            calls = [kind(0, 1, 1)] * 3 + [add(number, [], [], 0, 0)]
            self.check(calls, 0, 1, 2, 0 if number < 3 else -1)

    def test_a_refused_kind_is_not_there(self):
        self.check([kind(0, 1, 33), add(0, [], [], 0, 0)], -1, -1)

    def test_the_last_of_16_kinds(self):
        calls = [kind(0, 1, 1)] * 16 + [add(15, [], [], 0, 0), add(16, [], [], 0, 0)]
        self.check(calls, *range(16), 0, -1)

    def test_how_many_reads_and_writes(self):
        sizes = (0, 1, 2, 3, 4, 5, 6, 99, 100)
        for r, w in itertools.product(sizes, sizes):
            self.check_one([1] * r, [2] * w, 0, 0, r <= 4 and w <= 2)

    def test_registers(self):
        for number in (0, 1, 30, 31, 32, 33, 255, 2**32, GREATEST):
            right = number <= 31
            for k in range(4):
                reads = [0, 0, 0, 0]
                reads[k] = number
                self.check_one(reads, [], 0, 0, right)
            self.check_one([], [number], 0, 0, right)
            self.check_one([], [number, 0], 0, 0, right)
            self.check_one([], [0, number], 0, 0, right)

    def test_one_register_may_be_named_twice_and_in_both(self):
        self.check_one([7, 7, 7, 7], [7, 7], 0, 0, True)

    def test_mem_and_place(self):
        places = (0, 1, 14, 15, 16, 17, 254, 255, 256, 2**32, 2**32 + 255, GREATEST)
        for mem, place in itertools.product((0, 1, 2, 3, 4, 255, GREATEST), places):
            right = mem == 0 or (mem <= 2 and (place <= 15 or place == 255))
            self.check_one([1], [2], mem, place, right)

    def test_several_faults_are_one_refusal(self):
        calls = [add(GREATEST, [GREATEST] * 100, [GREATEST] * 100, GREATEST, GREATEST), INIT]
        self.check(calls, -1, 0)

    def test_a_refused_one_takes_no_number_and_no_room(self):
        wrong = [
            add(1, [], [], 0, 0),
            add(0, [1] * 5, [], 0, 0),
            add(0, [], [1] * 3, 0, 0),
            add(0, [32], [], 0, 0),
            add(0, [], [32], 0, 0),
            add(0, [], [], 3, 0),
            add(0, [], [], 1, 16),
        ]
        right = add(0, [1], [2], 2, 255)
        calls = [kind(0, 1, 1), right] + wrong + [right] * 6
        self.check(calls, 0, 0, *[-1] * 7, 1, 2, 3, 4, 5, -1)


class MixedTest(CallsTest):
    def test_all_five_in_one_list(self):
        calls = [
            width(4), units(0, 2), kind(0, 1, 3), add(0, [1, 2], [3], 0, 999),
            kind(7, 16, 32), add(1, [3], [], 2, 255), width(0), units(8, 1),
            add(2, [], [], 0, 0), INIT, add(0, [], [], 0, 0), kind(1, 1, 1),
        ]
        self.check(calls, 0, 0, 0, 0, 1, 1, -1, -1, -1, 0, -1, 0)

    def test_a_full_block_still_takes_kinds(self):
        block = [add(0, [], [], 0, 0)] * 7
        self.check([kind(0, 1, 1)] + block + [kind(0, 1, 1)], 0, 0, 1, 2, 3, 4, 5, -1, 1)


if __name__ == "__main__":
    unittest.main()
