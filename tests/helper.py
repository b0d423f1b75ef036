"""What the tests share: words of instructions, calls, and a second machine to hold the pipe against.

The second machine is written from the manual's words alone: it goes step by
step and has no places. When something is done is told by how far apart two
things are that are done one behind the other.
"""

from pipebench.benches import answers

# ---- words of instructions ----

KIND_0 = ["add", "sub", "and", "or", "xor", "shl", "shr", "sar"]
KIND_1 = ["lts", "ltu", "eq"]
KIND_13 = ["from", "cause", "back", "let", "may"]


def three(op, f, d, a, b):
    return (op << 12) | (d << 9) | (a << 6) | (b << 3) | f


def short(op, d, a, i6):
    return (op << 12) | (d << 9) | (a << 6) | (i6 & 63)


def long(op, d, i9):
    return (op << 12) | (d << 9) | (i9 & 511)


def alu(name, d, a, b):
    return three(0, KIND_0.index(name), d, a, b)


def cmp(name, d, a, b):
    return three(1, KIND_1.index(name), d, a, b)


def add(d, a, b):
    return alu("add", d, a, b)


def addi(d, a, i6):
    return short(2, d, a, i6)


def ldi(d, i9):
    return long(3, d, i9)


def ldh(d, i8):
    return (4 << 12) | (d << 9) | i8


def ld(d, a, i6):
    return short(5, d, a, i6)


def st(d, a, i6):
    return short(6, d, a, i6)


def bz(d, i9):
    return long(7, d, i9)


def bnz(d, i9):
    return long(8, d, i9)


def jal(d, i9):
    return long(9, d, i9)


def jr(d, a, i6):
    return short(10, d, a, i6)


def trap(k):
    return (11 << 12) | k


RET = 12 << 12
HALT = 14 << 12


def own(name, d):
    return (13 << 12) | (d << 9) | KIND_13.index(name)


# ---- calls ----

def new():
    return [0]


def put(p, words):
    return [1, p, len(words)] + list(words)


def get(p, n):
    return [2, p, n]


def set_(i, v):
    return [3, i, v]


def go(p):
    return [4, p]


def feed(k, words):
    return [5, k, len(words)] + list(words)


def told():
    return [6]


def tick(n, ups=()):
    return [7, n, len(ups)] + list(ups)


def till(k, n, ups=()):
    return [8, k, n, len(ups)] + list(ups)


def seen():
    return [9]


def ask(*calls):
    """The answers to the calls, a list each."""
    flat = []
    for call in calls:
        flat.extend(call)
    given = answers(flat)
    parted = []
    at = 0
    while at < len(given):
        parted.append(given[at + 1:at + 1 + given[at]])
        at += 1 + given[at]
    assert at == len(given)
    assert len(parted) == len(calls)
    return parted


def shown(registers=(), pc=0, may=0, from_=0, cause=0, halted=0):
    """An answer of seen; registers is a dict or nothing."""
    values = [0] * 8
    for number, value in dict(registers).items():
        values[number] = value
    return [pc, may, from_, cause, halted] + values


# ---- the second machine ----

def signed(value, bits):
    return value - (1 << bits) if value >> (bits - 1) else value


class Manual:
    """The manual's machine with its world, step by step; ticks() tells when a step is due."""

    def __init__(self):
        self.r = [0] * 8
        self.pc = self.may = self.from_ = self.cause = self.halted = 0
        self.memory = {}
        self.waiting = {k: [] for k in range(16)}
        self.told = []
        self.left = 4

    # the world

    def read(self, address):
        if address < 65520:
            return self.memory.get(address, 0)
        row = self.waiting[address - 65520]
        return row.pop(0) if row else 0

    def fetched(self, address):
        return self.memory.get(address, 0)

    def store(self, address, word):
        if address < 65520:
            self.memory[address] = word
        else:
            self.told.append((address - 65520, word))

    # the steps

    def seen(self):
        return [self.pc, self.may, self.from_, self.cause, self.halted] + self.r

    def trap(self, cause, place):
        self.from_, self.cause, self.may, self.pc = place, cause, 0, 2

    def step(self, line):
        if self.halted:
            return
        if self.may and line:
            self.trap(1, self.pc)
            return
        word = self.fetched(self.pc)
        name = name_of(word)
        if name is None:
            self.trap(2, self.pc)
            return
        self.do(name, word)

    def do(self, name, word):
        d, a, b = (word >> 9) & 7, (word >> 6) & 7, (word >> 3) & 7
        x, y, own_ = self.r[a], self.r[b], self.r[d]
        i6, i9, i8 = signed(word & 63, 6), signed(word & 511, 9), word & 255
        after = self.pc + 1
        to, pc = None, after
        if name in MAKES:
            to = MAKES[name](x, y)
        elif name == "addi":
            to = x + i6
        elif name == "ldi":
            to = i9
        elif name == "ldh":
            to = (i8 << 8) | (own_ & 255)
        elif name == "ld":
            to = self.read((x + i6) & 65535)
        elif name == "st":
            self.store((x + i6) & 65535, own_)
        elif name == "bz":
            pc = after + i9 if own_ == 0 else after
        elif name == "bnz":
            pc = after + i9 if own_ != 0 else after
        elif name == "jal":
            to, pc = after, after + i9
        elif name == "jr":
            to, pc = after, x + i6
        elif name == "trap":
            self.trap(16 + (word & 4095), after & 65535)
            return
        elif name == "ret":
            pc, self.may = self.from_, 1
        elif name == "halt":
            pc, self.halted = self.pc, 1
        elif name == "from":
            to = self.from_
        elif name == "cause":
            to = self.cause
        elif name == "back":
            self.from_ = own_
        elif name == "let":
            self.may = own_ & 1
        elif name == "may":
            to = self.may
        if to is not None:
            self.r[d] = to & 65535
        self.pc = pc & 65535

    # when something's done

    def gap(self, line):
        """How many ticks behind the step that's done now the next one is done."""
        if self.may and line:
            return 4
        word = self.fetched(self.pc)
        name = name_of(word)
        if name in (None, "trap", "ret", "halt"):
            return 4
        if name == "st":
            return 4 if self.hits(word) else 1
        if name == "jr":
            return 3
        if name == "jal":
            return 2
        if name in ("bz", "bnz"):
            taken = (self.r[(word >> 9) & 7] == 0) == (name == "bz")
            if word & 256:
                return 2 if taken else 3
            return 3 if taken else 1
        if name in ("ld", "from", "cause", "may"):
            return 2 if (word >> 9) & 7 in reads_of(self.fetched((self.pc + 1) & 65535)) else 1
        return 1

    def hits(self, word):
        """Whether a store goes to one of the addresses that are begun behind it."""
        address = (self.r[(word >> 6) & 7] + signed(word & 63, 6)) & 65535
        after = (self.pc + 1) & 65535
        word = self.fetched(after)
        name = name_of(word)
        begun = [after, (after + 1) & 65535, (after + 2) & 65535]
        if name == "jal" or (name in ("bz", "bnz") and word & 256):
            begun = [after, (after + 1 + signed(word & 511, 9)) & 65535]
        return address in begun

    def emptied(self):
        self.left = 4

    def tick(self, line):
        """A tick; answers 1 if something's done, else 0."""
        if self.halted:
            return 0
        self.left -= 1
        if self.left:
            return 0
        self.left = self.gap(line)
        self.step(line)
        return 1


MAKES = {
    "add": lambda x, y: x + y,
    "sub": lambda x, y: x - y,
    "and": lambda x, y: x & y,
    "or": lambda x, y: x | y,
    "xor": lambda x, y: x ^ y,
    "shl": lambda x, y: x << (y & 15),
    "shr": lambda x, y: x >> (y & 15),
    "sar": lambda x, y: signed(x, 16) >> (y & 15),
    "lts": lambda x, y: int(signed(x, 16) < signed(y, 16)),
    "ltu": lambda x, y: int(x < y),
    "eq": lambda x, y: int(x == y),
}

PLAIN = {2: "addi", 3: "ldi", 5: "ld", 6: "st", 7: "bz", 8: "bnz", 9: "jal", 10: "jr"}


def name_of(word):
    """The name of the instruction, or None."""
    op, rest, f = word >> 12, word & 4095, word & 7
    if op == 0:
        return KIND_0[f]
    if op == 1:
        return KIND_1[f] if f <= 2 else None
    if op == 4:
        return None if word & 256 else "ldh"
    if op == 11:
        return "trap" if rest <= 7 else None
    if op == 12:
        return "ret" if rest == 0 else None
    if op == 13:
        return KIND_13[f] if f <= 4 and (word >> 3) & 63 == 0 else None
    if op == 14:
        return "halt" if rest == 0 else None
    return PLAIN.get(op)


def reads_of(word):
    d, a, b = (word >> 9) & 7, (word >> 6) & 7, (word >> 3) & 7
    name = name_of(word)
    if name in MAKES:
        return [a, b]
    if name in ("addi", "ld", "jr"):
        return [a]
    if name == "st":
        return [a, d]
    if name in ("ldh", "bz", "bnz", "back", "let"):
        return [d]
    return []


class SecondBench:
    """Calls 0 to 9 on the second machine."""

    def __init__(self):
        self.m = Manual()

    def answer(self, call):
        number, row = call[0], None
        whole = call[1:3]
        if number in (1, 5, 7):
            row = call[3:]
        if number == 8:
            row = call[4:]
        return getattr(self, "call_%d" % number)(whole, row)

    def call_0(self, whole, row):
        self.m = Manual()
        return [0]

    def call_1(self, whole, row):
        places = range(whole[0], whole[0] + len(row))
        if any(p > 65519 for p in places):
            return [-1]
        self.m.emptied()
        self.m.memory.update(zip(places, row))
        return [len(row)]

    def call_2(self, whole, row):
        p, n = whole
        if n > 64 or any(q > 65519 for q in range(p, p + n)):
            return [-1]
        return [n] + [self.m.memory.get(q, 0) for q in range(p, p + n)]

    def call_3(self, whole, row):
        if whole[0] > 7:
            return [-1]
        self.m.emptied()
        self.m.r[whole[0]] = whole[1]
        return [0]

    def call_4(self, whole, row):
        self.m.emptied()
        self.m.pc, self.m.halted = whole[0], 0
        return [0]

    def call_5(self, whole, row):
        if whole[0] > 15:
            return [-1]
        waiting = self.m.waiting[whole[0]]
        if len(waiting + row) > 64:
            return [-3]
        waiting += row
        return [len(waiting)]

    def call_6(self, whole, row):
        flat = [number for pair in self.m.told for number in pair]
        many = len(self.m.told)
        self.m.told = []
        return [many] + flat

    def call_7(self, whole, row):
        if whole[0] > 2000:
            return [-1]
        ups = set(row)
        done = sum([self.m.tick(t in ups) for t in range(whole[0])])
        return [done, self.m.halted]

    def call_8(self, whole, row):
        k, n = whole
        if n > 2000:
            return [-1]
        ups = set(row)
        ticks = things = 0
        while things < k and not self.m.halted and ticks < n:
            things += self.m.tick(ticks in ups)
            ticks += 1
        return [ticks, things, 0 if things == k else 1 if self.m.halted else 2]

    def call_9(self, whole, row):
        return self.m.seen()
