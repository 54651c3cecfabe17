"""What the calls that tell of machine and block leave behind on the object itself."""

import unittest

from beginorder.block import Line
from tests.helpers import GREATEST


def kind_state(kind):
    return (kind.unit_class, kind.busy, kind.latency)


def instruction_state(one):
    return (kind_state(one.kind), one.reads, one.writes, one.mem, one.place)


def state(line):
    kinds = [kind_state(kind) for kind in line.kinds]
    block = [instruction_state(one) for one in line.block]
    return (line.width, list(line.units), kinds, block)


BEGINNING = (1, [1] * 8, [], [])


def filled_line():
    line = Line()
    line.set_width(3)
    line.set_units(2, 4)
    line.set_units(7, 2)
    line.add_kind(7, 16, 32)
    line.add_kind(2, 1, 5)
    line.add(1, [4, 3, 2, 1], [9, 8], 2, 255)
    line.add(0, [], [], 0, GREATEST)
    return line


FILLED = (
    3,
    [1, 1, 4, 1, 1, 1, 1, 2],
    [(7, 16, 32), (2, 1, 5)],
    [((2, 1, 5), [4, 3, 2, 1], [9, 8], 2, 255), ((7, 16, 32), [], [], 0, GREATEST)],
)


class LineTest(unittest.TestCase):
    def test_beginning(self):
        self.assertEqual(state(Line()), BEGINNING)

    def test_what_is_told_is_kept(self):
        self.assertEqual(state(filled_line()), FILLED)

    def test_init_sets_all_back(self):
        line = filled_line()
        self.assertEqual(line.begin(), 0)
        self.assertEqual(state(line), BEGINNING)

    def test_two_lines_share_nothing(self):
        filled_line()
        one = Line()
        one.set_units(0, 4)
        self.assertEqual(state(Line()), BEGINNING)

    def test_a_later_value_takes_the_place_of_an_earlier_one(self):
        line = Line()
        for n in (4, 1, 2):
            self.assertEqual(line.set_width(n), 0)
            self.assertEqual(line.set_units(0, n), 0)
        self.assertEqual(state(line), (2, [2] + [1] * 7, [], []))

    def test_each_class_has_units_of_its_own(self):
        line = Line()
        for c in range(8):
            line.set_units(c, 1 + c % 4)
        self.assertEqual(line.units, [1, 2, 3, 4, 1, 2, 3, 4])

    def test_an_instruction_keeps_its_kind(self):
        line = filled_line()
        block = list(line.block)
        line.begin()
        line.add_kind(0, 2, 3)
        line.add_kind(0, 2, 3)
        self.assertEqual([instruction_state(one) for one in block], FILLED[3])

    def check_refused(self, name, *told):
        line = filled_line()
        self.assertEqual(getattr(line, name)(*told), -1, (name, told))
        self.assertEqual(state(line), FILLED, (name, told))

    def test_refusals_change_nothing(self):
        for n in (0, 5, GREATEST):
            self.check_refused("set_width", n)
            self.check_refused("set_units", 0, n)
        for c in (8, GREATEST):
            self.check_refused("set_units", c, 2)
            self.check_refused("add_kind", c, 1, 1)
        for busy, latency in ((0, 1), (17, 1), (1, 0), (1, 33)):
            self.check_refused("add_kind", 0, busy, latency)
        self.check_refused("add", 2, [], [], 0, 0)
        self.check_refused("add", 0, [1] * 5, [], 0, 0)
        self.check_refused("add", 0, [], [1] * 3, 0, 0)
        self.check_refused("add", 0, [32], [], 0, 0)
        self.check_refused("add", 0, [], [0, 32], 0, 0)
        self.check_refused("add", 0, [], [], 3, 0)
        self.check_refused("add", 0, [], [], 1, 16)
        self.check_refused("add", 0, [], [], 2, 254)

    def test_a_full_machine_and_block_stay_as_they_are(self):
        line = filled_line()
        for n in range(14):
            line.add_kind(0, 1, n + 1)
        for n in range(4):
            line.add(n, [n], [n], 1, n)
        full = state(line)
        self.assertEqual((len(full[2]), len(full[3])), (16, 6))
        self.assertEqual(line.add_kind(0, 1, 1), -1)
        self.assertEqual(line.add(0, [], [], 0, 0), -1)
        self.assertEqual(state(line), full)


if __name__ == "__main__":
    unittest.main()
