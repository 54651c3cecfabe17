"""A machine and a block of instructions, as one list of calls tells of them."""

CALL_INIT = 0
CALL_WIDTH = 1
CALL_UNITS = 2
CALL_KIND = 3
CALL_ADD = 4
CALL_CLEAR = 5
CALL_DEP = 6
CALL_BOUND = 7
CALL_TIME = 8
CALL_BEST = 9

MOST_WIDTH = 4
CLASSES = 8
MOST_UNITS = 4
MOST_KINDS = 16
MOST_BUSY = 16
MOST_LATENCY = 32
MOST_INSTRUCTIONS = 6
MOST_READS = 4
MOST_WRITES = 2
REGISTERS = 32
MEM_NONE = 0
MEM_WRITES = 2
PLACES = 16
ANY_PLACE = 255

BIT_READS_RESULT = 1
BIT_WRITES_WHAT_IS_READ = 2
BIT_BOTH_WRITE = 4
BIT_MEMORY = 8

DONE = 0
REFUSED = -1
NOT_ACCEPTED = -2


class UnknownCall(ValueError):
    pass


class Kind:
    def __init__(self, unit_class, busy, latency):
        self.unit_class = unit_class
        self.busy = busy
        self.latency = latency


class Instruction:
    # It holds the kind itself, not its number: it keeps the kind that it was added with.
    def __init__(self, kind, reads, writes, mem, place):
        self.kind = kind
        self.reads = reads
        self.writes = writes
        self.mem = mem
        self.place = place


class Line:
    def __init__(self):
        self.begin()

    def begin(self):
        self.width = 1
        self.units = [1] * CLASSES
        self.kinds = []
        self.block = []
        return DONE

    def set_width(self, n):
        if not is_within(n, MOST_WIDTH):
            return REFUSED
        self.width = n
        return DONE

    def set_units(self, c, n):
        if c >= CLASSES or not is_within(n, MOST_UNITS):
            return REFUSED
        self.units[c] = n
        return DONE

    def add_kind(self, c, busy, latency):
        if len(self.kinds) >= MOST_KINDS or c >= CLASSES:
            return REFUSED
        if not is_within(busy, MOST_BUSY) or not is_within(latency, MOST_LATENCY):
            return REFUSED
        self.kinds.append(Kind(c, busy, latency))
        return len(self.kinds) - 1

    def add(self, kind, reads, writes, mem, place):
        if len(self.block) >= MOST_INSTRUCTIONS or kind >= len(self.kinds):
            return REFUSED
        if not are_registers(reads, MOST_READS) or not are_registers(writes, MOST_WRITES):
            return REFUSED
        if not is_memory_use(mem, place):
            return REFUSED
        self.block.append(Instruction(self.kinds[kind], reads, writes, mem, place))
        return len(self.block) - 1

    def clear(self):
        self.block = []
        return DONE

    def dep(self, i, j):
        if i >= len(self.block) or j >= len(self.block):
            return REFUSED
        if i >= j:
            return 0
        return bits_between(self.block[i], self.block[j])

    def bound(self):
        waits = waits_in(self.block)
        begins = {}
        for k in range(len(self.block)):
            begins[k] = after_waits(waits[k], begins)
        return cycles_taken(self.block, begins)

    def time(self, order):
        if sorted(order) != list(range(len(self.block))):
            return (REFUSED, [])
        waits = waits_in(self.block)
        if not is_accepted(waits, order):
            return (NOT_ACCEPTED, [])
        begins = begins_in_order(self, waits, order)
        return (cycles_taken(self.block, begins), list(begins.values()))

    def best(self):
        begins = best_begins(self)
        return (cycles_taken(self.block, begins), list(begins) + list(begins.values()))


class Reader:
    def __init__(self, numbers):
        self.numbers = numbers
        self.at = 0

    def has_more(self):
        return self.at < len(self.numbers)

    def number(self):
        value = self.numbers[self.at]
        self.at = self.at + 1
        return value

    # A slice is a new list, so nothing that keeps a row holds a part of what was handed in.
    def row(self):
        size = self.number()
        start = self.at
        self.at = start + size
        return self.numbers[start:self.at]


def is_within(n, most):
    return 1 <= n and n <= most


def are_registers(row, most):
    return len(row) <= most and all([r < REGISTERS for r in row])


# Without memory the place means nothing, so any number may stand there.
def is_memory_use(mem, place):
    if mem == MEM_NONE:
        return True
    return mem <= MEM_WRITES and (place < PLACES or place == ANY_PLACE)


def name_one_in_common(row, other):
    return any([r in other for r in row])


def may_meet_in_memory(one, other):
    if one.mem == MEM_NONE or other.mem == MEM_NONE:
        return False
    return one.place == other.place or one.place == ANY_PLACE or other.place == ANY_PLACE


def bits_between(earlier, later):
    bits = 0
    if name_one_in_common(later.reads, earlier.writes):
        bits = bits | BIT_READS_RESULT
    if name_one_in_common(later.writes, earlier.reads):
        bits = bits | BIT_WRITES_WHAT_IS_READ
    if name_one_in_common(later.writes, earlier.writes):
        bits = bits | BIT_BOTH_WRITE
    one_writes = earlier.mem == MEM_WRITES or later.mem == MEM_WRITES
    if one_writes and may_meet_in_memory(earlier, later):
        bits = bits | BIT_MEMORY
    return bits


def needed_cycles(earlier, later, bits):
    needed = 0
    if bits & BIT_READS_RESULT != 0:
        needed = earlier.kind.latency
    if bits & BIT_BOTH_WRITE != 0:
        needed = max(needed, earlier.kind.latency + 1 - later.kind.latency)
    if bits & BIT_MEMORY != 0 and earlier.mem == MEM_WRITES:
        needed = max(needed, earlier.kind.latency)
    return needed


# Those with 0 needed cycles are in it too: both may begin in one cycle, but j stays behind.
def waits_of(block, j):
    waits = {}
    for i in range(j):
        bits = bits_between(block[i], block[j])
        if bits != 0:
            waits[i] = needed_cycles(block[i], block[j], bits)
    return waits


def waits_in(block):
    return [waits_of(block, j) for j in range(len(block))]


def have_all_begun(wait, begun):
    return all([i in begun for i in wait])


def is_accepted(waits, order):
    begun = {}
    for k in order:
        if not have_all_begun(waits[k], begun):
            return False
        begun[k] = True
    return True


def after_waits(wait, begins):
    return max([begins[i] + wait[i] for i in wait], default=0)


# None begins before the one that precedes it: if width of them began in one cycle, they are the last of the order.
def after_width(width, cycles):
    if len(cycles) < width:
        return 0
    return cycles[-width] + 1


# Those that precede have begun by then, so each has its unit until its end: all but fewer than units must have ended.
def after_units(line, begins, unit_class):
    ends = []
    for i in begins:
        kind = line.block[i].kind
        if kind.unit_class == unit_class:
            ends.append(begins[i] + kind.busy)
    units = line.units[unit_class]
    if len(ends) < units:
        return 0
    return sorted(ends)[-units]


# A dict keeps the order in which keys came: the keys of begins are the order, its values the cycles.
def earliest_begin(line, waits, begins, k):
    cycles = list(begins.values())
    after_preceding = max(cycles, default=0)
    return max(
        after_preceding,
        after_width(line.width, cycles),
        after_waits(waits[k], begins),
        after_units(line, begins, line.block[k].kind.unit_class),
    )


def begins_in_order(line, waits, order):
    begins = {}
    for k in order:
        begins[k] = earliest_begin(line, waits, begins, k)
    return begins


def cycles_taken(block, begins):
    return max([begins[k] + block[k].kind.latency for k in begins], default=0)


def with_one_more(line, waits, begins):
    longer = []
    for k in range(len(line.block)):
        if k not in begins and have_all_begun(waits[k], begins):
            more = dict(begins)
            more[k] = earliest_begin(line, waits, begins, k)
            longer.append(more)
    return longer


# The given order is the one with the smallest numbers first, and those tried come in that manner too, so a later one
# is better only if it's shorter; and a whole order takes no fewer cycles than its first places take.
def best_begins(line):
    waits = waits_in(line.block)
    best = begins_in_order(line, waits, list(range(len(line.block))))
    fewest = cycles_taken(line.block, best)
    untried = [{}]
    while len(untried) > 0:
        begins = untried.pop()
        cycles = cycles_taken(line.block, begins)
        if cycles >= fewest:
            continue
        if len(begins) == len(line.block):
            best = begins
            fewest = cycles
        else:
            untried.extend(list(reversed(with_one_more(line, waits, begins))))
    return best


def answer_width(line, reader):
    n = reader.number()
    return line.set_width(n)


def answer_units(line, reader):
    c = reader.number()
    n = reader.number()
    return line.set_units(c, n)


def answer_kind(line, reader):
    c = reader.number()
    busy = reader.number()
    latency = reader.number()
    return line.add_kind(c, busy, latency)


# The rows come last in a call, whatever their place among what add is told.
def answer_add(line, reader):
    kind = reader.number()
    mem = reader.number()
    place = reader.number()
    reads = reader.row()
    writes = reader.row()
    return line.add(kind, reads, writes, mem, place)


def answer_dep(line, reader):
    i = reader.number()
    j = reader.number()
    return line.dep(i, j)


def answer_number(line, reader, call):
    if call == CALL_INIT:
        return line.begin()
    if call == CALL_WIDTH:
        return answer_width(line, reader)
    if call == CALL_UNITS:
        return answer_units(line, reader)
    if call == CALL_KIND:
        return answer_kind(line, reader)
    if call == CALL_ADD:
        return answer_add(line, reader)
    if call == CALL_CLEAR:
        return line.clear()
    if call == CALL_DEP:
        return answer_dep(line, reader)
    if call == CALL_BOUND:
        return line.bound()
    raise UnknownCall(f"no call {call}")


def answer_call(line, reader):
    call = reader.number()
    if call == CALL_TIME:
        return line.time(reader.row())
    if call == CALL_BEST:
        return line.best()
    return (answer_number(line, reader, call), [])


# The 0 is the count of an answer's bytes: no answer has any.
def written_answer(number, row):
    answer = [number, 0, len(row)] + row
    return [len(answer)] + answer


def answers(calls):
    line = Line()
    reader = Reader(calls)
    given = []
    while reader.has_more():
        answer = answer_call(line, reader)
        given.extend(written_answer(answer[0], answer[1]))
    return given
