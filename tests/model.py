"""The document's words once more, taken one by one: cycle by cycle, and through every order there is.

It shares nothing with the package, so that tests can hold the one against the other.
"""

import itertools


class Model:
    def __init__(self):
        self.init()

    def init(self):
        self.width = 1
        self.units = {c: 1 for c in range(8)}
        self.kinds = []
        self.block = []
        return 0, []

    def set_width(self, n):
        if n not in range(1, 5):
            return -1, []
        self.width = n
        return 0, []

    def set_units(self, c, n):
        if c > 7 or n not in range(1, 5):
            return -1, []
        self.units[c] = n
        return 0, []

    def kind(self, c, busy, latency):
        if len(self.kinds) == 16 or c > 7 or busy not in range(1, 17) or latency not in range(1, 33):
            return -1, []
        self.kinds.append({"class": c, "busy": busy, "latency": latency})
        return len(self.kinds) - 1, []

    def add(self, kind, mem, place, reads, writes):
        wrong = (
            len(self.block) == 6
            or kind >= len(self.kinds)
            or len(reads) > 4
            or len(writes) > 2
            or any(number > 31 for number in reads + writes)
            or mem > 2
            or (mem != 0 and not (place < 16 or place == 255))
        )
        if wrong:
            return -1, []
        told = {"reads": set(reads), "writes": set(writes), "mem": mem, "place": place}
        self.block.append({**self.kinds[kind], **told})
        return len(self.block) - 1, []

    def clear(self):
        self.block = []
        return 0, []

    def bits(self, i, j):
        a, b = self.block[i], self.block[j]
        meet = a["mem"] and b["mem"] and (a["place"] == b["place"] or 255 in (a["place"], b["place"]))
        return (
            (1 if b["reads"] & a["writes"] else 0)
            + (2 if b["writes"] & a["reads"] else 0)
            + (4 if b["writes"] & a["writes"] else 0)
            + (8 if meet and 2 in (a["mem"], b["mem"]) else 0)
        )

    def needed(self, i, j):
        a, b = self.block[i], self.block[j]
        bits = self.bits(i, j)
        held = [0]
        if bits & 1:
            held.append(a["latency"])
        if bits & 4 and a["latency"] + 1 - b["latency"] > 0:
            held.append(a["latency"] + 1 - b["latency"])
        if bits & 8 and a["mem"] == 2:
            held.append(a["latency"])
        return max(held)

    def behind(self, j):
        return [i for i in range(j) if self.bits(i, j)]

    def dep(self, i, j):
        if i >= len(self.block) or j >= len(self.block):
            return -1, []
        return (self.bits(i, j) if i < j else 0), []

    def takes(self, begins):
        return max([begin + self.block[k]["latency"] for k, begin in begins.items()], default=0)

    def bound(self):
        begins = {}
        for j in range(len(self.block)):
            cycle = 0
            while any(cycle < begins[i] + self.needed(i, j) for i in self.behind(j)):
                cycle += 1
            begins[j] = cycle
        return self.takes(begins), []

    def accepted(self, order):
        return all(order.index(i) < order.index(j) for j in order for i in self.behind(j))

    def may_begin(self, k, cycle, begins):
        one = self.block[k]
        in_cycle = [i for i in begins if begins[i] == cycle]
        having = [
            i for i in begins
            if self.block[i]["class"] == one["class"] and cycle in range(begins[i], begins[i] + self.block[i]["busy"])
        ]
        return (
            (not begins or cycle >= list(begins.values())[-1])
            and len(in_cycle) < self.width
            and all(cycle >= begins[i] + self.needed(i, k) for i in begins if i in self.behind(k))
            and len(having) < self.units[one["class"]]
        )

    def begins(self, order):
        begins = {}
        for k in order:
            cycle = 0
            while not self.may_begin(k, cycle, begins):
                cycle += 1
            begins[k] = cycle
        return begins

    def is_order(self, order):
        return len(order) == len(self.block) and set(order) == set(range(len(self.block)))

    def time(self, order):
        if not self.is_order(order):
            return -1, []
        if not self.accepted(order):
            return -2, []
        begins = self.begins(order)
        return self.takes(begins), [begins[k] for k in order]

    def best(self):
        found = []
        for order in itertools.permutations(range(len(self.block))):
            if self.accepted(order):
                cycles, begins = self.time(order)
                found.append((cycles, list(order), begins))
        cycles, order, begins = min(found)
        return cycles, order + begins


def model_answers(calls):
    """What `answers` is to give back, for calls such as the helpers write them, one by one."""
    model = Model()
    ways = (
        model.init, model.set_width, model.set_units, model.kind, None,
        model.clear, model.dep, model.bound, None, model.best,
    )
    given = []
    for call in calls:
        if call[0] == 4:
            reads = call[5:5 + call[4]]
            number, row = model.add(*call[1:4], reads, call[6 + call[4]:])
        elif call[0] == 8:
            number, row = model.time(call[2:])
        else:
            number, row = ways[call[0]](*call[1:])
        given += [3 + len(row), number, 0, len(row), *row]
    return given
