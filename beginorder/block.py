"""A machine and a block of instructions, as one list of calls tells of them."""

CALL_INIT = 0
CALL_WIDTH = 1
CALL_UNITS = 2
CALL_KIND = 3
CALL_ADD = 4

MOST_WIDTH = 4
CLASSES = 8
MOST_UNITS = 4
MOST_KINDS = 16
MOST_BUSY = 16
MOST_LATENCY = 32
MOST_INSTRUCTIONS = 6
MOST_READS = 4
MOST_WRITES = 2
REGISTERS = 32
MEM_NONE = 0
MEM_WRITES = 2
PLACES = 16
ANY_PLACE = 255

DONE = 0
REFUSED = -1


class UnknownCall(ValueError):
    pass


class Kind:
    def __init__(self, unit_class, busy, latency):
        self.unit_class = unit_class
        self.busy = busy
        self.latency = latency


class Instruction:
    # It holds the kind itself, not its number: it keeps the kind that it was added with.
    def __init__(self, kind, reads, writes, mem, place):
        self.kind = kind
        self.reads = reads
        self.writes = writes
        self.mem = mem
        self.place = place


class Line:
    def __init__(self):
        self.begin()

    def begin(self):
        self.width = 1
        self.units = [1] * CLASSES
        self.kinds = []
        self.block = []
        return DONE

    def set_width(self, n):
        if not is_within(n, MOST_WIDTH):
            return REFUSED
        self.width = n
        return DONE

    def set_units(self, c, n):
        if c >= CLASSES or not is_within(n, MOST_UNITS):
            return REFUSED
        self.units[c] = n
        return DONE

    def add_kind(self, c, busy, latency):
        if len(self.kinds) >= MOST_KINDS or c >= CLASSES:
            return REFUSED
        if not is_within(busy, MOST_BUSY) or not is_within(latency, MOST_LATENCY):
            return REFUSED
        self.kinds.append(Kind(c, busy, latency))
        return len(self.kinds) - 1

    def add(self, kind, reads, writes, mem, place):
        if len(self.block) >= MOST_INSTRUCTIONS or kind >= len(self.kinds):
            return REFUSED
        if not are_registers(reads, MOST_READS) or not are_registers(writes, MOST_WRITES):
            return REFUSED
        if not is_memory_use(mem, place):
            return REFUSED
        self.block.append(Instruction(self.kinds[kind], reads, writes, mem, place))
        return len(self.block) - 1


class Reader:
    def __init__(self, numbers):
        self.numbers = numbers
        self.at = 0

    def has_more(self):
        return self.at < len(self.numbers)

    def number(self):
        value = self.numbers[self.at]
        self.at = self.at + 1
        return value

    # A slice is a new list, so nothing that keeps a row holds a part of what was handed in.
    def row(self):
        size = self.number()
        start = self.at
        self.at = start + size
        return self.numbers[start:self.at]


def is_within(n, most):
    return 1 <= n and n <= most


def are_registers(row, most):
    return len(row) <= most and all([r < REGISTERS for r in row])


# Without memory the place means nothing, so any number may stand there.
def is_memory_use(mem, place):
    if mem == MEM_NONE:
        return True
    return mem <= MEM_WRITES and (place < PLACES or place == ANY_PLACE)


def answer_width(line, reader):
    n = reader.number()
    return line.set_width(n)


def answer_units(line, reader):
    c = reader.number()
    n = reader.number()
    return line.set_units(c, n)


def answer_kind(line, reader):
    c = reader.number()
    busy = reader.number()
    latency = reader.number()
    return line.add_kind(c, busy, latency)


# The rows come last in a call, whatever their place among what add is told.
def answer_add(line, reader):
    kind = reader.number()
    mem = reader.number()
    place = reader.number()
    reads = reader.row()
    writes = reader.row()
    return line.add(kind, reads, writes, mem, place)


def answer_call(line, reader):
    call = reader.number()
    if call == CALL_INIT:
        return line.begin()
    if call == CALL_WIDTH:
        return answer_width(line, reader)
    if call == CALL_UNITS:
        return answer_units(line, reader)
    if call == CALL_KIND:
        return answer_kind(line, reader)
    if call == CALL_ADD:
        return answer_add(line, reader)
    raise UnknownCall(f"no call {call}")


# The 0 is the count of an answer's bytes: no answer has any.
def written_answer(number, row):
    answer = [number, 0, len(row)] + row
    return [len(answer)] + answer


def answers(calls):
    line = Line()
    reader = Reader(calls)
    given = []
    while reader.has_more():
        number = answer_call(line, reader)
        given.extend(written_answer(number, []))
    return given
