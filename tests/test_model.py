"""Many lists of calls, held against the document's words as tests/model.py takes them."""

import random
import unittest

from beginorder.block import answers
from tests.helpers import BEST, BOUND, CLEAR, GREATEST, INIT, add, dep, joined, kind, time, units, width
from tests.model import model_answers


def some_kind(dice):
    busy = dice.choice((1, 1, 1, 2, 3, 16))
    return kind(dice.randrange(3), busy, dice.choice((1, 1, 2, 3, 4, 5, 9, 32)))


def some_add(dice, kinds, registers):
    reads = [dice.randrange(registers) for k in range(dice.randrange(4))]
    writes = [dice.randrange(registers) for k in range(dice.randrange(3))]
    mem = dice.choice((0, 0, 0, 1, 1, 2))
    return add(dice.randrange(kinds), reads, writes, mem, dice.choice((0, 1, 2, 255)))


def some_order(dice, size):
    order = list(range(size))
    # A full shuffle is seldom accepted, so most are turned at a few places only.
    for turn in range(dice.randrange(4)):
        if size > 1:
            at = dice.randrange(size - 1)
            order[at:at + 2] = [order[at + 1], order[at]]
    if dice.randrange(6) == 0:
        dice.shuffle(order)
    return order


def some_wrong_call(dice):
    far = dice.choice((0, 5, 6, 16, 33, 255, 2**32, GREATEST))
    return dice.choice((
        width(far), units(far, 1), units(1, far), kind(far, 1, 1), kind(0, far, 1), kind(0, 1, far),
        add(far, [], [], 0, 0), add(0, [far], [], 0, 0), add(0, [], [far], 0, 0), add(0, [], [], far, 1),
        add(0, [], [], 1, far), dep(far, 0), dep(0, far), time([far]), time([0, 1, 2, 3, 4, far]),
    ))


class ModelTest(unittest.TestCase):
    def check(self, calls):
        self.assertEqual(answers(joined(calls)), model_answers(calls), calls)

    def test_blocks_of_every_size(self):
        dice = random.Random(1)
        for turn in range(300):
            size = turn % 7
            registers = dice.choice((3, 6, 12, 32))
            calls = [width(dice.randrange(1, 5))] + [units(c, dice.randrange(1, 5)) for c in range(3)]
            calls += [some_kind(dice) for k in range(4)]
            calls += [some_add(dice, 4, registers) for k in range(size)]
            calls += [dep(i, j) for i in range(size + 1) for j in range(size + 1)]
            calls += [time(some_order(dice, size)) for k in range(8)] + [BOUND]
            calls += [BEST] if size < 6 or turn % 10 == 0 else []
            self.check(calls)

    def test_blocks_without_bits_where_only_the_machine_counts(self):
        dice = random.Random(2)
        for turn in range(150):
            size = dice.randrange(2, 6)
            calls = [width(dice.randrange(1, 5))] + [units(c, dice.randrange(1, 5)) for c in range(3)]
            calls += [some_kind(dice) for k in range(size)]
            calls += [add(k, [], [], 0, 0) for k in range(size)] + [BOUND, BEST]
            self.check(calls)

    def test_all_ten_calls_in_any_order(self):
        dice = random.Random(3)
        for turn in range(60):
            calls = []
            for k in range(60):
                calls.append(dice.choice((
                    width(dice.randrange(1, 5)), units(dice.randrange(3), dice.randrange(1, 5)), some_kind(dice),
                    some_add(dice, 3, 6), some_add(dice, 3, 6), some_add(dice, 3, 6), some_wrong_call(dice),
                    dep(dice.randrange(6), dice.randrange(6)), BOUND, time(some_order(dice, dice.randrange(7))),
                )))
                if k % 20 == 19:
                    calls.append(dice.choice((BEST, CLEAR)))
            self.check(calls + [INIT, BEST])


if __name__ == "__main__":
    unittest.main()
