"""What `answers` promises of itself, whatever the calls are."""

import contextlib
import io
import unittest

from beginorder.block import UnknownCall, answers
from tests.helpers import GREATEST, INIT, add, joined, kind, plain, units, width

CALLS = joined([
    width(2), units(1, 3), kind(1, 2, 3), add(0, [1, 2, 3, 4], [5, 6], 1, 15),
    add(0, [1] * 100, [2] * 100, 0, GREATEST), add(0, [], [], 0, 0), INIT, kind(0, 0, 0),
])
ANSWERED = plain(0, 0, 0, 0, -1, 1, 0, -1)


def refuse(*told):
    raise AssertionError("what was handed in is changed")


class Fixed(list):
    """A list that can be read alone: it tells of a change made only for a while too."""

    append = extend = insert = pop = remove = clear = sort = reverse = refuse
    __setitem__ = __delitem__ = __iadd__ = __imul__ = refuse


class InterfaceTest(unittest.TestCase):
    def test_what_is_handed_in_stays(self):
        calls = list(CALLS)
        self.assertEqual(answers(calls), ANSWERED)
        self.assertEqual(calls, CALLS)

    def test_what_is_handed_in_is_not_changed_for_a_while_either(self):
        self.assertEqual(answers(Fixed(CALLS)), ANSWERED)

    def test_what_is_given_back_is_another_list_each_time(self):
        calls = [0]
        first = answers(calls)
        first.append(9)
        self.assertEqual(calls, [0])
        self.assertEqual(answers(calls), [3, 0, 0, 0])

    def test_nothing_is_kept(self):
        self.assertEqual(answers(kind(0, 1, 1) * 16), plain(*range(16)))
        self.assertEqual(answers(add(0, [], [], 0, 0)), plain(-1))
        self.assertEqual(answers(kind(0, 1, 1) + add(0, [], [], 0, 0)), plain(0, 0))
        self.assertEqual(answers(kind(0, 1, 1) + add(0, [], [], 0, 0)), plain(0, 0))

    def test_it_prints_nothing(self):
        out, err = io.StringIO(), io.StringIO()
        with contextlib.redirect_stdout(out), contextlib.redirect_stderr(err):
            answers(list(CALLS))
        self.assertEqual((out.getvalue(), err.getvalue()), ("", ""))

    def test_400_calls(self):
        self.assertEqual(answers([0] * 400), plain(*[0] * 400))
        self.assertEqual(answers(width(GREATEST) * 400), plain(*[-1] * 400))

    def test_as_many_numbers_as_there_may_be(self):
        longest = add(0, [31] * 100, [GREATEST] * 100, 2, 255)
        calls = kind(0, 1, 1) + longest * 77 + add(0, [1], [2], 2, 255)
        self.assertLessEqual(len(calls), 16000)
        self.assertGreater(len(calls), 15800)
        self.assertEqual(answers(calls), plain(0, *[-1] * 77, 0))

    def test_rows_of_every_length_are_passed_over_whole(self):
        for size in range(101):
            # Numbers of calls stand in the row: each would answer if it were taken for one.
            row = [k % 5 for k in range(size)]
            calls = [kind(0, 1, 1), add(0, row, [], 0, 0), add(0, [], row, 0, 0), INIT]
            first = 0 if size <= 4 else -1
            second = 1 if size <= 2 else -1
            self.assertEqual(answers(joined(calls)), plain(0, first, second, 0), size)

    def test_a_number_that_is_no_call(self):
        for call in (10, GREATEST):
            with self.assertRaises(UnknownCall):
                answers([0, call])


if __name__ == "__main__":
    unittest.main()
