"""What one call leaves for the next, by what `answers` gives back."""

import unittest

from beginorder.block import answers
from tests.helpers import (
    BEST, BOUND, CLEAR, GREATEST, INIT, add, dep, joined, kind, plain, split_answers, time, told, units, width,
)

ALONE = ([], [], 0, 0)
QUESTIONS = [dep(0, 1), dep(1, 2), BOUND, time([0, 1, 2]), time([2, 0, 1]), time([1, 0, 2]), time([0]), BEST]


def found_by(calls):
    return split_answers(answers(joined(calls)))


class QuestionsTest(unittest.TestCase):
    """Each question sees the machine and the block as they are when it is asked."""

    def check_changes(self, machine, change, rows):
        """Four instructions, alike and without bits; rows tells when they begin, for each n that change sets."""
        calls = machine + [add(0, *ALONE)] * 4
        wanted = plain(0, 0, 0, 1, 2, 3)
        for n in (1, 4, 2, 3, 1):
            calls += [change(n), time([3, 2, 1, 0]), BEST]
            cycles = rows[n][-1] + 1
            wanted += told(0) + told(cycles, rows[n]) + told(cycles, [0, 1, 2, 3, *rows[n]])
        self.assertEqual(answers(joined(calls)), wanted)

    def test_width_changed_between_two_questions(self):
        rows = {1: [0, 1, 2, 3], 2: [0, 0, 1, 1], 3: [0, 0, 0, 1], 4: [0, 0, 0, 0]}
        self.check_changes([units(0, 4), kind(0, 1, 1)], width, rows)

    def test_units_changed_between_two_questions(self):
        rows = {1: [0, 7, 14, 21], 2: [0, 0, 7, 7], 3: [0, 0, 0, 7], 4: [0, 0, 0, 0]}
        self.check_changes([width(4), kind(5, 7, 1)], lambda n: units(5, n), rows)

    def test_units_of_another_class_change_nothing(self):
        calls = [width(4), kind(5, 7, 1)] + [add(0, *ALONE)] * 2
        for c in (0, 4, 6, 7):
            self.assertEqual(found_by(calls + [units(c, 4), time([0, 1])])[-1], (8, [0, 7]))

    def test_a_block_that_grows(self):
        calls = [kind(0, 1, 2), BEST, BOUND]
        wanted = plain(0, 0, 0)
        for k in range(6):
            calls += [add(0, [k], [k + 1], 0, 0), BOUND, BEST]
            begins = [2 * i for i in range(k + 1)]
            wanted += told(k) + told(2 * (k + 1)) + told(2 * (k + 1), [*range(k + 1), *begins])
        self.assertEqual(answers(joined(calls)), wanted)

    def test_a_question_changes_nothing(self):
        calls = [width(2), kind(0, 2, 3), kind(1, 1, 5)]
        calls += [add(0, [], [1], 0, 0), add(0, [1], [], 2, 3), add(1, [], [], 1, 255)]
        once = found_by(calls + QUESTIONS)[-len(QUESTIONS):]
        thrice = found_by(calls + QUESTIONS * 3)[-3 * len(QUESTIONS):]
        self.assertEqual(thrice, once * 3)


class KindsTest(unittest.TestCase):
    def test_a_kind_added_later_does_not_change_an_instruction(self):
        calls = [kind(0, 2, 3), add(0, *ALONE), add(0, *ALONE), kind(1, 16, 32), kind(0, 16, 32)]
        self.assertEqual(found_by(calls + [time([1, 0])])[-1], (5, [0, 2]))
        self.assertEqual(found_by(calls + [BOUND])[-1], (3, []))

    def test_each_instruction_has_the_kind_that_it_was_told(self):
        calls = [kind(k, k + 1, 30 - k) for k in range(8)]
        for k in range(8):
            alone = calls + [add(k, *ALONE), add(k, *ALONE), width(4)]
            self.assertEqual(found_by(alone + [BOUND])[-1], (30 - k, []))
            self.assertEqual(found_by(alone + [time([0, 1])])[-1], (31, [0, k + 1]))


class ClearTest(unittest.TestCase):
    def test_whole_list(self):
        self.assertEqual(answers([5]), [3, 0, 0, 0])
        self.assertEqual(answers([3, 0, 1, 1, 4, 0, 0, 0, 0, 0, 5, 7, 9, 8, 0]), plain(0, 0, 0, 0, 0, 0))

    def test_machine_and_kinds_stay(self):
        calls = [width(3), units(2, 3), kind(2, 16, 4), add(0, *ALONE), CLEAR]
        calls += [add(0, *ALONE)] * 4 + [time([0, 1, 2, 3]), kind(2, 1, 1)]
        wanted = plain(0, 0, 0, 0, 0, 0, 1, 2, 3) + told(20, [0, 0, 0, 16]) + told(1)
        self.assertEqual(answers(joined(calls)), wanted)

    def test_6_may_be_added_again(self):
        block = [add(0, *ALONE)] * 7
        six = [0, 1, 2, 3, 4, 5, -1]
        calls = [kind(0, 1, 1)] + (block + [CLEAR]) * 5 + block
        self.assertEqual(answers(joined(calls)), plain(0, *(six + [0]) * 5, *six))

    def test_nothing_of_the_old_block_is_left(self):
        calls = [kind(0, 16, 32)] + [add(0, [5], [5], 2, 255)] * 3 + [CLEAR]
        calls += [add(0, [5], [5], 2, 255), dep(0, 1), time([0]), time([0, 1, 2]), BOUND, BEST]
        wanted = [(0, []), (-1, []), (32, [0]), (-1, []), (32, []), (32, [0, 0])]
        self.assertEqual(found_by(calls)[-6:], wanted)

    def test_16_kinds_are_still_all(self):
        calls = [kind(0, 1, 1)] * 16 + [CLEAR, kind(0, 1, 1)]
        self.assertEqual(answers(joined(calls)), plain(*range(16), 0, -1))


class InitTest(unittest.TestCase):
    def test_it_sets_all_back(self):
        calls = [width(4), units(0, 4), kind(0, 3, 5)] + [add(0, *ALONE)] * 3 + [time([0, 1, 2]), INIT]
        calls += [BOUND, BEST, time([]), time([0]), dep(0, 0), add(0, *ALONE), kind(0, 3, 1)]
        calls += [add(0, *ALONE)] * 3 + [time([0, 1, 2])]
        wanted = plain(0, 0, 0, 0, 1, 2) + told(5, [0, 0, 0]) + plain(0)
        wanted += plain(0, 0, 0, -1, -1, -1, 0) + plain(0, 1, 2) + told(7, [0, 3, 6])
        self.assertEqual(answers(joined(calls)), wanted)

    def test_the_width_is_1_again(self):
        calls = [width(4), INIT, kind(0, 1, 1), kind(1, 1, 1), add(0, *ALONE), add(1, *ALONE), time([0, 1])]
        self.assertEqual(found_by(calls)[-1], (2, [0, 1]))

    def test_each_class_has_1_unit_again(self):
        for c in range(8):
            calls = [units(c, 4), INIT, width(4), kind(c, 9, 1), add(0, *ALONE), add(0, *ALONE), time([0, 1])]
            self.assertEqual(found_by(calls)[-1], (10, [0, 9]))


class RefusalsTest(unittest.TestCase):
    REFUSED = [
        width(0), width(5), units(8, 1), units(0, 0), units(0, 5), kind(8, 1, 1), kind(0, 0, 1), kind(0, 1, 33),
        add(9, *ALONE), add(0, [32], [], 0, 0), add(0, [], [1, 2, 3], 0, 0), add(0, [], [], 3, 0),
        dep(0, 9), dep(GREATEST, 0), time([]), time([0, 0, 1]), time([0, 1, GREATEST]), time([0] * 100),
    ]

    def test_a_refusal_changes_nothing(self):
        calls = [width(2), units(0, 2), kind(0, 2, 3), kind(1, 1, 5)]
        calls += [add(0, [], [1], 0, 0), add(0, [1], [], 2, 3), add(1, [], [], 1, 255)]
        once = found_by(calls + QUESTIONS)[-len(QUESTIONS):]
        for refused in self.REFUSED + [time([1, 0, 2])]:
            found = found_by(calls + [refused] + QUESTIONS + [kind(0, 1, 1), add(0, *ALONE)])
            number = -2 if refused == time([1, 0, 2]) else -1
            self.assertEqual(found[len(calls):], [(number, [])] + once + [(2, []), (3, [])], refused)


if __name__ == "__main__":
    unittest.main()
