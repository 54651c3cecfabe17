"""How tests write calls and the answers that they ask for."""

GREATEST = 18446744073709551615

INIT = [0]
CLEAR = [5]
BOUND = [7]
BEST = [9]


def width(n):
    return [1, n]


def units(c, n):
    return [2, c, n]


def kind(c, busy, latency):
    return [3, c, busy, latency]


def add(kind_number, reads, writes, mem, place):
    return [4, kind_number, mem, place, len(reads), *reads, len(writes), *writes]


def dep(i, j):
    return [6, i, j]


def time(order):
    return [8, len(order), *order]


def joined(calls):
    return [number for call in calls for number in call]


def plain(*numbers):
    """The whole list given back where each call answers a number and no list."""
    return joined([3, number, 0, 0] for number in numbers)


def told(number, row=()):
    """One answer of a number and a list, as it is given back."""
    return [3 + len(row), number, 0, len(row), *row]


def split_answers(given):
    """What is given back, answer by answer: its number and its list."""
    found = []
    at = 0
    while at < len(given):
        size = given[at]
        answer = given[at + 1:at + 1 + size]
        number, bytes_count, count, *row = answer
        if bytes_count != 0 or count != len(row) or size != 3 + count:
            raise AssertionError(f"no answer at {at}: {answer}")
        found.append((number, row))
        at = at + 1 + size
    return found
