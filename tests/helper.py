"""What the tests share: words of instructions, calls, and a second bench to hold the first against.

On the second bench are two machines side by side. One is written from the
manual's words alone: it goes step by step and has no places. When something is
done is told by how far apart two things are that are done one behind the other.
The other has places, and makes at each tick all of them out of all that stood
there before.
"""

import copy

from pipebench.benches import answers

# ---- words of instructions ----

KIND_0 = ["add", "sub", "and", "or", "xor", "shl", "shr", "sar"]
KIND_1 = ["lts", "ltu", "eq"]
KIND_13 = ["from", "cause", "back", "let", "may"]


def three(op, f, d, a, b):
    return (op << 12) | (d << 9) | (a << 6) | (b << 3) | f


def short(op, d, a, i6):
    return (op << 12) | (d << 9) | (a << 6) | (i6 & 63)


def long(op, d, i9):
    return (op << 12) | (d << 9) | (i9 & 511)


def alu(name, d, a, b):
    return three(0, KIND_0.index(name), d, a, b)


def cmp(name, d, a, b):
    return three(1, KIND_1.index(name), d, a, b)


def add(d, a, b):
    return alu("add", d, a, b)


def addi(d, a, i6):
    return short(2, d, a, i6)


def ldi(d, i9):
    return long(3, d, i9)


def ldh(d, i8):
    return (4 << 12) | (d << 9) | i8


def ld(d, a, i6):
    return short(5, d, a, i6)


def st(d, a, i6):
    return short(6, d, a, i6)


def bz(d, i9):
    return long(7, d, i9)


def bnz(d, i9):
    return long(8, d, i9)


def jal(d, i9):
    return long(9, d, i9)


def jr(d, a, i6):
    return short(10, d, a, i6)


def trap(k):
    return (11 << 12) | k


RET = 12 << 12
HALT = 14 << 12


def own(name, d):
    return (13 << 12) | (d << 9) | KIND_13.index(name)


# ---- calls ----

def new():
    return [0]


def put(p, words):
    return [1, p, len(words)] + list(words)


def get(p, n):
    return [2, p, n]


def set_(i, v):
    return [3, i, v]


def go(p):
    return [4, p]


def feed(k, words):
    return [5, k, len(words)] + list(words)


def told():
    return [6]


def tick(n, ups=()):
    return [7, n, len(ups)] + list(ups)


def till(k, n, ups=()):
    return [8, k, n, len(ups)] + list(ups)


def seen():
    return [9]


def place(i):
    return [10, i]


def trace(n, ups=()):
    return [11, n, len(ups)] + list(ups)


def counts():
    return [12]


def asks(w):
    return [13, w]


def manual(n, ups=()):
    return [14, n, len(ups)] + list(ups)


def same(n, ups=()):
    return [15, n, len(ups)] + list(ups)


def cells():
    return [16]


def nets(n, ups=()):
    return [17, n, len(ups)] + list(ups)


def save(k):
    return [18, k]


def back(k):
    return [19, k]


# Where a call's row begins, behind how many numbers it has.
ROWS = {1: 3, 5: 3, 7: 3, 8: 4, 11: 3, 14: 3, 15: 3, 17: 3}

PLACES = [place(i) for i in range(5)]


def ask(*calls):
    """The answers to the calls, a list each."""
    flat = []
    for call in calls:
        flat.extend(call)
    given = answers(flat)
    parted = []
    at = 0
    while at < len(given):
        parted.append(given[at + 1:at + 1 + given[at]])
        at += 1 + given[at]
    assert at == len(given)
    assert len(parted) == len(calls)
    return parted


def shown(registers=(), pc=0, may=0, from_=0, cause=0, halted=0):
    """An answer of seen; registers is a dict or nothing."""
    values = [0] * 8
    for number, value in dict(registers).items():
        values[number] = value
    return [pc, may, from_, cause, halted] + values


# ---- the second machine ----

def signed(value, bits):
    return value - (1 << bits) if value >> (bits - 1) else value


class SecondWorld:
    def __init__(self):
        self.memory = {}
        self.waiting = {k: [] for k in range(16)}
        self.told = []

    def read(self, address):
        if address < 65520:
            return self.memory.get(address, 0)
        row = self.waiting[address - 65520]
        return row.pop(0) if row else 0

    def fetched(self, address):
        return self.memory.get(address, 0)

    def store(self, address, word):
        if address < 65520:
            self.memory[address] = word
        else:
            self.told.append((address - 65520, word))

    def world(self):
        return [{p: word for p, word in self.memory.items() if word}, self.waiting, self.told]


class Manual(SecondWorld):
    """The manual's machine with its world, step by step; tick() tells when a step is due."""

    def __init__(self):
        super().__init__()
        self.r = [0] * 8
        self.pc = self.may = self.from_ = self.cause = self.halted = 0
        self.left = 4

    # the steps

    def seen(self):
        return [self.pc, self.may, self.from_, self.cause, self.halted] + self.r

    def trap(self, cause, place):
        self.from_, self.cause, self.may, self.pc = place, cause, 0, 2

    def step(self, line):
        if self.halted:
            return
        if self.may and line:
            self.trap(1, self.pc)
            return
        word = self.fetched(self.pc)
        name = name_of(word)
        if name is None:
            self.trap(2, self.pc)
            return
        self.do(name, word)

    def do(self, name, word):
        d, a, b = (word >> 9) & 7, (word >> 6) & 7, (word >> 3) & 7
        x, y, own_ = self.r[a], self.r[b], self.r[d]
        i6, i9, i8 = signed(word & 63, 6), signed(word & 511, 9), word & 255
        after = self.pc + 1
        to, pc = None, after
        if name in MAKES:
            to = MAKES[name](x, y)
        elif name == "addi":
            to = x + i6
        elif name == "ldi":
            to = i9
        elif name == "ldh":
            to = (i8 << 8) | (own_ & 255)
        elif name == "ld":
            to = self.read((x + i6) & 65535)
        elif name == "st":
            self.store((x + i6) & 65535, own_)
        elif name == "bz":
            pc = after + i9 if own_ == 0 else after
        elif name == "bnz":
            pc = after + i9 if own_ != 0 else after
        elif name == "jal":
            to, pc = after, after + i9
        elif name == "jr":
            to, pc = after, x + i6
        elif name == "trap":
            self.trap(16 + (word & 4095), after & 65535)
            return
        elif name == "ret":
            pc, self.may = self.from_, 1
        elif name == "halt":
            pc, self.halted = self.pc, 1
        elif name == "from":
            to = self.from_
        elif name == "cause":
            to = self.cause
        elif name == "back":
            self.from_ = own_
        elif name == "let":
            self.may = own_ & 1
        elif name == "may":
            to = self.may
        if to is not None:
            self.r[d] = to & 65535
        self.pc = pc & 65535

    # when something's done

    def gap(self, line):
        """How many ticks behind the step that's done now the next one is done."""
        if self.may and line:
            return 4
        word = self.fetched(self.pc)
        name = name_of(word)
        if name in (None, "trap", "ret", "halt"):
            return 4
        if name == "st":
            return 4 if self.hits(word) else 1
        if name == "jr":
            return 3
        if name == "jal":
            return 2
        if name in ("bz", "bnz"):
            taken = (self.r[(word >> 9) & 7] == 0) == (name == "bz")
            if word & 256:
                return 2 if taken else 3
            return 3 if taken else 1
        if name in ("ld", "from", "cause", "may"):
            return 2 if (word >> 9) & 7 in reads_of(self.fetched((self.pc + 1) & 65535)) else 1
        return 1

    def hits(self, word):
        """Whether a store goes to one of the addresses that are begun behind it."""
        address = (self.r[(word >> 6) & 7] + signed(word & 63, 6)) & 65535
        after = (self.pc + 1) & 65535
        word = self.fetched(after)
        name = name_of(word)
        begun = [after, (after + 1) & 65535, (after + 2) & 65535]
        if name == "jal" or (name in ("bz", "bnz") and word & 256):
            begun = [after, (after + 1 + signed(word & 511, 9)) & 65535]
        return address in begun

    def emptied(self):
        self.left = 4

    def tick(self, line):
        """A tick; answers 1 if something's done, else 0."""
        if self.halted:
            return 0
        self.left -= 1
        if self.left:
            return 0
        self.left = self.gap(line)
        self.step(line)
        return 1


MAKES = {
    "add": lambda x, y: x + y,
    "sub": lambda x, y: x - y,
    "and": lambda x, y: x & y,
    "or": lambda x, y: x | y,
    "xor": lambda x, y: x ^ y,
    "shl": lambda x, y: x << (y & 15),
    "shr": lambda x, y: x >> (y & 15),
    "sar": lambda x, y: signed(x, 16) >> (y & 15),
    "lts": lambda x, y: int(signed(x, 16) < signed(y, 16)),
    "ltu": lambda x, y: int(x < y),
    "eq": lambda x, y: int(x == y),
}

PLAIN = {2: "addi", 3: "ldi", 5: "ld", 6: "st", 7: "bz", 8: "bnz", 9: "jal", 10: "jr"}


def name_of(word):
    """The name of the instruction, or None."""
    op, rest, f = word >> 12, word & 4095, word & 7
    if op == 0:
        return KIND_0[f]
    if op == 1:
        return KIND_1[f] if f <= 2 else None
    if op == 4:
        return None if word & 256 else "ldh"
    if op == 11:
        return "trap" if rest <= 7 else None
    if op == 12:
        return "ret" if rest == 0 else None
    if op == 13:
        return KIND_13[f] if f <= 4 and (word >> 3) & 63 == 0 else None
    if op == 14:
        return "halt" if rest == 0 else None
    return PLAIN.get(op)


def reads_of(word):
    d, a, b = (word >> 9) & 7, (word >> 6) & 7, (word >> 3) & 7
    name = name_of(word)
    if name in MAKES:
        return [a, b]
    if name in ("addi", "ld", "jr"):
        return [a]
    if name == "st":
        return [a, d]
    if name in ("ldh", "bz", "bnz", "back", "let"):
        return [d]
    return []


def writes_of(word):
    """The register that's written, or None."""
    name = name_of(word)
    if name in MAKES or name in ("addi", "ldi", "ldh", "ld", "jal", "jr", "from", "cause", "may"):
        return (word >> 9) & 7
    return None


def late(word):
    return name_of(word) in ("ld", "from", "cause", "may")


def turning(word):
    name = name_of(word)
    return name == "jal" or (name in ("bz", "bnz") and bool(word & 256))


def branch_end(address, word):
    return (address + 1 + signed(word & 511, 9)) & 65535


class SecondPipe(SecondWorld):
    """The pipe with its world: at each tick what stands everywhere is made out of what stood there before."""

    def __init__(self):
        super().__init__()
        self.now = {"r": (0,) * 8, "may": 0, "from": 0, "cause": 0, "halted": 0,
                    "fetch": 0, "read": None, "reckon": None, "memory": None, "put": None}

    def registers(self):
        now = self.now
        return [now["put"][1] if now["put"] and now["put"][0] == k else now["r"][k] for k in range(8)]

    def pc(self):
        now = self.now
        filled = [now[name] for name in ("memory", "reckon", "read") if now[name]]
        return filled[0][0] if filled else now["fetch"]

    def seen(self):
        now = self.now
        return [self.pc(), now["may"], now["from"], now["cause"], now["halted"]] + self.registers()

    def emptied(self, **other):
        self.now = dict(self.now, r=tuple(self.registers()), fetch=self.pc(), read=None, reckon=None, memory=None,
                        put=None)
        self.now.update(other)

    def places(self):
        """As call 10 answers of each."""
        now = self.now
        rows = [[0] if now["halted"] else [1, now["fetch"]]]
        return rows + [[1, *now[name]] if now[name] else [0] for name in ("read", "reckon", "memory", "put")]

    def cells(self):
        now = self.now
        bits = ""
        for value in now["r"] + (now["fetch"],):
            bits += format(value, "016b")[::-1]
        for name, widths in (("read", "  "), ("reckon", "    "), ("memory", "    "), ("put", "r ")):
            values = now[name] or (0,) * len(widths)
            bits += "1" if now[name] else "0"
            for value, width in zip(values, widths):
                bits += format(value, "03b" if width == "r" else "016b")[::-1]
        bits += str(now["may"]) + format(now["from"], "016b")[::-1] + format(now["cause"], "05b")[::-1]
        bits += str(now["halted"])
        assert len(bits) == 350
        return [int(bits[k:k + 16][::-1], 2) for k in range(0, 350, 16)]

    # a tick

    def tick(self, line):
        """Answers 1 if something's done, else 0; and the tick's kind."""
        old = self.now
        if old["halted"]:
            return (0, 5)
        fetched = self.fetched(old["fetch"])
        changes, on, to_put = self.at_memory(old, line)
        to_memory, way = self.at_reckon(old)
        new = dict(old, put=to_put, **changes)
        if old["put"]:
            new["r"] = tuple(old["put"][1] if k == old["put"][0] else value for k, value in enumerate(old["r"]))
        if on is not None:
            kind, then = 1, {"memory": None, "reckon": None, "read": None, "fetch": on}
        elif way is not None:
            kind, then = 2, {"memory": to_memory, "reckon": None, "read": None, "fetch": way}
        elif self.waits(old):
            kind, then = 3, {"memory": to_memory, "reckon": None}
        elif old["read"] and turning(old["read"][1]):
            kind, then = 4, {"memory": to_memory, "reckon": self.at_read(old, to_memory, to_put), "read": None,
                             "fetch": branch_end(*old["read"])}
        else:
            kind, then = 0, {"memory": to_memory, "reckon": self.at_read(old, to_memory, to_put),
                             "read": (old["fetch"], fetched), "fetch": (old["fetch"] + 1) & 65535}
        self.now = dict(new, **then)
        return (1 if old["memory"] else 0, kind)

    def at_memory(self, old, line):
        """What changes, where it goes on, what goes to put."""
        if not old["memory"]:
            return {}, None, None
        address, word, v, s = old["memory"]
        after, d, name = (address + 1) & 65535, (word >> 9) & 7, name_of(word)
        if old["may"] and line:
            return {"from": address, "cause": 1, "may": 0}, 2, None
        if name is None:
            return {"from": address, "cause": 2, "may": 0}, 2, None
        if name == "trap":
            return {"from": after, "cause": 16 + (word & 7), "may": 0}, 2, None
        if name == "ret":
            return {"may": 1}, old["from"], None
        if name == "halt":
            return {"halted": 1}, address, None
        if name == "ld":
            return {}, None, (d, self.read(v))
        if name == "st":
            self.store(v, s)
            begun = [old[other][0] for other in ("reckon", "read") if old[other]] + [old["fetch"]]
            return {}, after if v in begun else None, None
        if name in ("from", "cause", "may"):
            return {}, None, (d, old[name])
        if name == "back":
            return {"from": v}, None, None
        if name == "let":
            return {"may": v & 1}, None, None
        return {}, None, None if writes_of(word) is None else (d, v)

    def at_reckon(self, old):
        """What goes to memory, and another way that's gone."""
        if not old["reckon"]:
            return None, None
        address, word, x, y = old["reckon"]
        after, name = (address + 1) & 65535, name_of(word)
        to = (x + signed(word & 63, 6)) & 65535
        v, way = 0, None
        if name in MAKES:
            v = MAKES[name](x, y) & 65535
        elif name in ("addi", "ld", "st"):
            v = to
        elif name == "ldi":
            v = signed(word & 511, 9) & 65535
        elif name == "ldh":
            v = ((word & 255) << 8) | (x & 255)
        elif name in ("jal", "jr"):
            v = after
        elif name in KIND_13:
            v = x
        if name == "jr":
            way = to
        elif name in ("bz", "bnz"):
            taken = (x == 0) == (name == "bz")
            if taken != turning(word):
                way = branch_end(address, word) if taken else after
        return (address, word, v, y), way

    def waits(self, old):
        if not old["read"] or not old["reckon"]:
            return False
        return late(old["reckon"][1]) and writes_of(old["reckon"][1]) in reads_of(old["read"][1])

    def at_read(self, old, to_memory, to_put):
        """What goes to reckon."""
        if not old["read"]:
            return None
        values = []
        for k in reads_of(old["read"][1]):
            # The oldest first, so the last one counts.
            known = [old["r"][k]] + [pair[1] for pair in (old["put"], to_put) if pair and pair[0] == k]
            if to_memory and writes_of(to_memory[1]) == k:
                known.append(to_memory[2])
            values.append(known[-1])
        return (*old["read"], *(values + [0, 0])[:2])


class SecondBench:
    """The calls on the second machines, which are held against one another too."""

    def __init__(self):
        self.slots = {}
        self.call_0(None, None)

    def answer(self, call):
        number = call[0]
        at = ROWS.get(number)
        whole = call[1:at - 1] if at else call[1:]
        answer = getattr(self, "call_%d" % number)(whole, call[at:] if at else None)
        assert self.m.seen() == self.p.seen()
        return answer

    def tick(self, line):
        done, kind = self.p.tick(line)
        assert done == self.m.tick(line)
        self.counts["ticks"] += 1
        self.counts["done"] += done
        self.counts[kind] += 1
        return done, kind

    def call_0(self, whole, row):
        self.m, self.p = Manual(), SecondPipe()
        self.counts = dict.fromkeys(["ticks", "done", 0, 1, 2, 3, 4, 5], 0)
        return [0]

    def call_1(self, whole, row):
        places = range(whole[0], whole[0] + len(row))
        if any(p > 65519 for p in places):
            return [-1]
        for machine in (self.m, self.p):
            machine.emptied()
            machine.memory.update(zip(places, row))
        return [len(row)]

    def call_2(self, whole, row):
        p, n = whole
        if n > 64 or any(q > 65519 for q in range(p, p + n)):
            return [-1]
        return [n] + [self.p.memory.get(q, 0) for q in range(p, p + n)]

    def call_3(self, whole, row):
        i, v = whole
        if i > 7:
            return [-1]
        self.m.emptied()
        self.m.r[i] = v
        self.p.emptied(r=tuple(v if k == i else value for k, value in enumerate(self.p.registers())))
        return [0]

    def call_4(self, whole, row):
        self.m.emptied()
        self.m.pc, self.m.halted = whole[0], 0
        self.p.emptied(fetch=whole[0], halted=0)
        return [0]

    def call_5(self, whole, row):
        if whole[0] > 15:
            return [-1]
        if len(self.p.waiting[whole[0]] + row) > 64:
            return [-3]
        for machine in (self.m, self.p):
            machine.waiting[whole[0]] += row
        return [len(self.p.waiting[whole[0]])]

    def call_6(self, whole, row):
        assert self.m.world() == self.p.world()
        flat = [number for pair in self.p.told for number in pair]
        self.m.told, self.p.told = [], []
        return [len(flat) // 2] + flat

    def call_7(self, whole, row):
        if whole[0] > 2000:
            return [-1]
        ups = set(row)
        done = sum([self.tick(t in ups)[0] for t in range(whole[0])])
        return [done, self.m.halted]

    def call_8(self, whole, row):
        k, n = whole
        if n > 2000:
            return [-1]
        ups = set(row)
        ticks = things = 0
        while things < k and not self.m.halted and ticks < n:
            things += self.tick(ticks in ups)[0]
            ticks += 1
        return [ticks, things, 0 if things == k else 1 if self.m.halted else 2]

    def call_9(self, whole, row):
        return self.m.seen()

    def call_10(self, whole, row):
        return self.p.places()[whole[0]] if whole[0] < 5 else [-1]

    def call_11(self, whole, row):
        if whole[0] > 64:
            return [-1]
        answer = []
        for t in range(whole[0]):
            answer += [(shown_ + [65536])[1] for shown_ in self.p.places()[:4]]
            answer += self.tick(t in row)
        return answer

    def call_12(self, whole, row):
        return [self.counts[key] for key in ("ticks", "done", 1, 2, 3, 4)]

    def call_13(self, whole, row):
        word = whole[0]
        if name_of(word) is None:
            return [-4]
        to = writes_of(word)
        return [len(reads_of(word))] + reads_of(word) + [8 if to is None else to, int(late(word)), int(turning(word))]

    def call_14(self, whole, row):
        if whole[0] > 2000:
            return [-1]
        machine, ups = copy.deepcopy(self.m), set(row)
        for t in range(whole[0]):
            machine.step(t in ups)
        return machine.seen()

    def call_15(self, whole, row):
        if whole[0] > 2000:
            return [-1]
        pipe, machine, ups, things = copy.deepcopy(self.p), copy.deepcopy(self.m), set(row), 0
        for t in range(whole[0]):
            if pipe.tick(t in ups)[0]:
                machine.step(t in ups)
                things += 1
        return [things, int(pipe.seen() == machine.seen() and pipe.world() == machine.world())]

    def call_16(self, whole, row):
        return self.p.cells()

    def call_17(self, whole, row):
        return [1] if whole[0] <= 64 else [-1]

    def call_18(self, whole, row):
        if whole[0] > 3:
            return [-1]
        self.slots[whole[0]] = copy.deepcopy((self.m, self.p, self.counts))
        return [0]

    def call_19(self, whole, row):
        if whole[0] not in self.slots:
            return [-4]
        self.m, self.p, self.counts = copy.deepcopy(self.slots[whole[0]])
        return [0]
