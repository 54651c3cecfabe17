"""How tests write calls and the answers that they ask for."""

GREATEST = 18446744073709551615

INIT = [0]


def width(n):
    return [1, n]


def units(c, n):
    return [2, c, n]


def kind(c, busy, latency):
    return [3, c, busy, latency]


def add(kind_number, reads, writes, mem, place):
    return [4, kind_number, mem, place, len(reads), *reads, len(writes), *writes]


def joined(calls):
    return [number for call in calls for number in call]


def plain(*numbers):
    """The whole list given back where each call answers a number and no list."""
    return joined([3, number, 0, 0] for number in numbers)
