"""What `answers` promises of itself, whatever the calls are."""

import contextlib
import io
import unittest

from beginorder.block import UnknownCall, answers
from tests.helpers import (
    BEST, BOUND, CLEAR, GREATEST, INIT, add, dep, joined, kind, plain, split_answers, time, told, units, width,
)
from tests.model import model_answers

CALLS = joined([
    width(2), units(1, 3), kind(1, 2, 3), add(0, [1, 2, 3, 4], [5, 6], 1, 15),
    add(0, [1] * 100, [2] * 100, 0, GREATEST), add(0, [], [], 0, 0), dep(0, 1), BOUND, time([1, 0]),
    time([GREATEST] * 100), BEST, CLEAR, BEST, INIT, kind(0, 0, 0),
])
ANSWERED = (
    plain(0, 0, 0, 0, -1, 1, 0, 3) + told(3, [0, 0]) + plain(-1) + told(3, [0, 1, 0, 0]) + plain(0, 0, 0, -1)
)


def mixed_calls():
    """400 calls, among them all ten; best is asked over blocks of 6 without any bits."""
    calls = [INIT]
    for k in range(16):
        calls.append(kind(k % 8, 1 + k, 32 - k))
    turn = 0
    while len(calls) + 23 <= 400:
        calls += [CLEAR, width(1 + turn % 4), units(turn % 8, 1 + turn % 3)]
        calls += [add((turn + k) % 16, [], [], 0, 0) for k in range(6)]
        calls += [dep(0, 5), BOUND, time([5, 4, 3, 2, 1, 0]), time([0] * 6)] + [BEST] * 10
        turn = turn + 1
    return calls + [BEST] * (400 - len(calls))


def model_answers_asked_once(calls):
    """The model is slow at best, so of several in a row only the first is asked of it."""
    asked = [k for k, call in enumerate(calls) if call != BEST or calls[k - 1] != BEST]
    found = split_answers(model_answers([calls[k] for k in asked]))
    given = []
    at = -1
    for k in range(len(calls)):
        at = at + 1 if k in asked else at
        given += told(*found[at])
    return given


def refuse(*what):
    raise AssertionError("what was handed in is changed")


class Fixed(list):
    """A list that can be read alone: it tells of a change made only for a while too."""

    append = extend = insert = pop = remove = clear = sort = reverse = refuse
    __setitem__ = __delitem__ = __iadd__ = __imul__ = refuse


class InterfaceTest(unittest.TestCase):
    def test_what_is_handed_in_stays(self):
        calls = list(CALLS)
        self.assertEqual(answers(calls), ANSWERED)
        self.assertEqual(calls, CALLS)

    def test_what_is_handed_in_is_not_changed_for_a_while_either(self):
        self.assertEqual(answers(Fixed(CALLS)), ANSWERED)

    def test_what_is_given_back_is_another_list_each_time(self):
        calls = [0]
        first = answers(calls)
        first.append(9)
        self.assertEqual(calls, [0])
        self.assertEqual(answers(calls), [3, 0, 0, 0])

    def test_nothing_is_kept(self):
        self.assertEqual(answers(kind(0, 1, 1) * 16), plain(*range(16)))
        self.assertEqual(answers(add(0, [], [], 0, 0)), plain(-1))
        self.assertEqual(answers(kind(0, 1, 1) + add(0, [], [], 0, 0)), plain(0, 0))
        self.assertEqual(answers(kind(0, 1, 1) + add(0, [], [], 0, 0)), plain(0, 0))
        for empty in (BOUND, BEST, time([])):
            self.assertEqual(answers(empty), plain(0))
        self.assertEqual(answers(dep(0, 0)), plain(-1))

    def test_the_machine_is_not_kept_either(self):
        block = joined([kind(0, 4, 1), add(0, [], [], 0, 0), add(0, [], [], 0, 0), BEST])
        self.assertEqual(answers(joined([width(4), units(0, 4)]) + block)[-8:], told(1, [0, 1, 0, 0]))
        self.assertEqual(answers(block)[-8:], told(5, [0, 1, 0, 4]))

    def test_the_same_twice_answers_the_same_twice(self):
        for turn in range(2):
            self.assertEqual(answers(list(CALLS)), ANSWERED)

    def test_it_prints_nothing(self):
        out, err = io.StringIO(), io.StringIO()
        with contextlib.redirect_stdout(out), contextlib.redirect_stderr(err):
            answers(list(CALLS))
        self.assertEqual((out.getvalue(), err.getvalue()), ("", ""))

    def test_400_calls(self):
        self.assertEqual(answers([0] * 400), plain(*[0] * 400))
        self.assertEqual(answers(width(GREATEST) * 400), plain(*[-1] * 400))

    def test_as_many_numbers_as_there_may_be(self):
        longest = add(0, [31] * 100, [GREATEST] * 100, 2, 255)
        calls = kind(0, 1, 1) + longest * 77 + add(0, [1], [2], 2, 255)
        self.assertLessEqual(len(calls), 16000)
        self.assertGreater(len(calls), 15800)
        self.assertEqual(answers(calls), plain(0, *[-1] * 77, 0))

    def test_rows_of_every_length_are_passed_over_whole(self):
        for size in range(101):
            # Numbers of calls stand in the row: each would answer if it were taken for one.
            row = [k % 5 for k in range(size)]
            calls = [kind(0, 1, 1), add(0, row, [], 0, 0), add(0, [], row, 0, 0), INIT]
            first = 0 if size <= 4 else -1
            second = 1 if size <= 2 else -1
            self.assertEqual(answers(joined(calls)), plain(0, first, second, 0), size)

    def test_orders_of_every_length_are_passed_over_whole(self):
        for size in range(101):
            order = [k % 10 for k in range(size)]
            calls = [kind(0, 1, 1), add(0, [], [], 0, 0), time(order), BOUND]
            answer = told(1, [0]) if size == 1 else told(-1)
            self.assertEqual(answers(joined(calls)), plain(0, 0) + answer + plain(1), size)

    def test_as_many_orders_as_there_may_be(self):
        calls = joined([time([GREATEST] * 100)] * 156 + [BEST])
        self.assertLessEqual(len(calls), 16000)
        self.assertGreater(len(calls), 15900)
        self.assertEqual(answers(calls), plain(*[-1] * 156, 0))

    def test_400_calls_of_all_ten(self):
        calls = mixed_calls()
        self.assertEqual(len(calls), 400)
        self.assertEqual({call[0] for call in calls}, set(range(10)))
        flat = joined(calls)
        kept = list(flat)
        given = answers(flat)
        self.assertEqual(flat, kept)
        self.assertIs(type(given), list)
        self.assertEqual({type(number) for number in given}, {int})
        self.assertEqual(given, model_answers_asked_once(calls))

    def test_393_times_best_of_6_that_all_take_as_long(self):
        calls = [kind(0, 16, 32)] + [add(0, [], [], 0, 0)] * 6 + [BEST] * 393
        best = (112, [0, 1, 2, 3, 4, 5, 0, 16, 32, 48, 64, 80])
        self.assertEqual(split_answers(answers(joined(calls)))[7:], [best] * 393)

    def test_a_number_that_is_no_call(self):
        for call in (10, 11, 255, GREATEST):
            with self.assertRaises(UnknownCall):
                answers([0, call])


if __name__ == "__main__":
    unittest.main()
