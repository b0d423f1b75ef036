"""Gates, what's made of them, and the net of them held against the pipe."""

import random
import unittest

from pipebench.cells import CELLS, WIDTHS, bits_of, cells_of, number_of, packed, parted
from pipebench.gate_words import (
    GateWord, first_read, second_read, turns_wire, writes_late_wire, writes_wire,
)
from pipebench.gates import FIXED, HIGH, LOW, Gates, constant, run
from pipebench.nets import Net, net_tick
from pipebench.pipes import Pipe, tick
from pipebench.trials import shown_of
from pipebench.worlds import World
from tests.helper import (
    HALT, RET, SecondPipe, add, late, ld, ldi, name_of, own, reads_of, st, trap, turning, writes_of,
)


class Wired:
    """Gates with rows of wires coming in, of those widths."""

    def __init__(self, *widths):
        self.widths = widths
        self.gates = Gates(sum(widths))
        self.rows = []
        at = len(FIXED)
        for width in widths:
            self.rows.append(list(range(at, at + width)))
            at += width

    def carry(self, wires, *numbers):
        """The number on those wires where the rows carry these numbers."""
        taken_in = []
        for number, width in zip(numbers, self.widths):
            taken_in += bits_of(number, width)
        carried = run(self.gates, taken_in)
        return number_of([carried[wire] for wire in wires])


class Single(unittest.TestCase):
    def test_tables(self):
        wired = Wired(1, 1)
        gates, (a,), (b,) = wired.gates, *wired.rows
        made = [gates.both(a, b), gates.either(a, b), gates.differ(a, b), gates.opposite(a), gates.but_not(a, b),
                LOW, HIGH]
        rows = {(0, 0): "0001001", (0, 1): "0111001", (1, 0): "0110101", (1, 1): "1100001"}
        for (one, other), row in rows.items():
            self.assertEqual(wired.carry(made, one, other), int(row[::-1], 2), (one, other))

    def test_of_several(self):
        for width in (1, 2, 3, 5):
            wired = Wired(width)
            every, some = wired.gates.all_of(wired.rows[0]), wired.gates.any_of(wired.rows[0])
            for number in range(1 << width):
                self.assertEqual(wired.carry([every], number), int(number == (1 << width) - 1))
                self.assertEqual(wired.carry([some], number), int(number > 0))

    def test_chosen_masked_and_picked(self):
        wired = Wired(1, 1, 3, 3)
        (p,), (q,), ones, others = wired.rows
        gates = wired.gates
        chosen, masked = gates.row_chosen(p, ones, others), gates.masked(p, ones)
        picked = gates.picked([(p, ones), (q, others)])
        for number in range(256):
            values = (number & 1, number >> 1 & 1, number >> 2 & 7, number >> 5)
            p_, q_, one, other = values
            self.assertEqual(wired.carry(chosen, *values), other if p_ else one)
            self.assertEqual(wired.carry(masked, *values), one if p_ else 0)
            if not (p_ and q_):
                self.assertEqual(wired.carry(picked, *values), one if p_ else other if q_ else 0)

    def test_rows(self):
        wired = Wired(4, 4, 1)
        ones, others, (carry,) = wired.rows
        gates = wired.gates
        alike, total = gates.alike(ones, others), gates.summed(ones, others, carry)
        more, up = gates.one_more(ones), gates.one_up(ones)
        for one in range(16):
            for other in range(16):
                for c in (0, 1):
                    self.assertEqual(wired.carry([alike], one, other, c), int(one == other))
                    self.assertEqual(wired.carry(total, one, other, c), one + other + c)
            self.assertEqual(wired.carry(more, one, 0, 0), (one + 1) % 16)
            self.assertEqual(wired.carry(up, one, 0, 0), 1 << one)

    def test_shifted_down(self):
        wired = Wired(16, 4, 1)
        row, by, (fill,) = wired.rows
        made = wired.gates.shifted_down(row, by, fill)
        for number in (0, 1, 32768, 65535, 0x1234, 0xa5c3):
            for k in range(16):
                self.assertEqual(wired.carry(made, number, k, 0), number >> k)
                self.assertEqual(wired.carry(made, number, k, 1), ((65535 << 16) | number) >> k & 65535)

    def test_constant(self):
        wired = Wired(1)
        for number in (0, 1, 2, 16, 23, 31):
            self.assertEqual(wired.carry(constant(number, 5), 0), number)


class Words(unittest.TestCase):
    def test_what_every_word_asks_for(self):
        wired = Wired(16)
        gates, row = wired.gates, wired.rows[0]
        word = GateWord(gates, row)
        first, second = first_read(gates, word), second_read(gates, word)
        wires = [word.instruction, writes_wire(gates, word), writes_late_wire(gates, word), turns_wire(gates, word),
                 first[0], second[0]]
        numbers = first[1] + second[1] + word.d
        # Every third, so that all ops, registers and fs come with one another.
        for w in range(0, 65536, 3):
            carried = run(gates, bits_of(w, 16))
            got = [carried[wire] for wire in wires]
            reads, to = reads_of(w), writes_of(w)
            self.assertEqual(got, [int(flag) for flag in (name_of(w) is not None, to is not None, late(w), turning(w),
                                                          len(reads) > 0, len(reads) > 1)], hex(w))
            three = [number_of([carried[wire] for wire in numbers[k:k + 3]]) for k in (0, 3, 6)]
            self.assertEqual(three[:len(reads)], reads, hex(w))
            self.assertEqual(sum([carried[wire] for wire in word.kinds]), int(name_of(w) is not None))
            if name_of(w) is not None:
                self.assertEqual(carried[word.kinds[w >> 12]], 1)
            if to is not None:
                self.assertEqual(three[2], to)


class CellRows(unittest.TestCase):
    def test_widths(self):
        self.assertEqual(sum(WIDTHS), 350)
        self.assertEqual(CELLS, 350)
        self.assertEqual(len(cells_of(Pipe())), 350)
        parts = parted(list(range(350)))
        self.assertEqual([len(part) for part in parts], list(WIDTHS))
        self.assertEqual([number for part in parts for number in part], list(range(350)))

    def test_bits(self):
        self.assertEqual(bits_of(6, 4), [0, 1, 1, 0])
        self.assertEqual(number_of([0, 1, 1, 0]), 6)
        self.assertEqual(number_of([]), 0)
        self.assertEqual(packed([1] + [0] * 15 + [0, 1]), [1, 2])


def some_word(rng, registers):
    """A word of any op; its registers are among those few, so that words have to do with one another."""
    d, a, b = rng.choice(registers), rng.choice(registers), rng.choice(registers)
    op, f = rng.choice([0, 1, 5, 6, 13, *range(16)]), rng.choice([0, 1, 2, *range(8)])
    rest = rng.choice([rng.randrange(4096), (d << 9) | (a << 6) | (b << 3) | f, (d << 9) | f, f])
    return (op << 12) | rest


def some_number(rng):
    return rng.choice([0, 1, 255, 32767, 32768, 65535, rng.randrange(16), 1 << rng.randrange(16), rng.randrange(65536),
                       rng.randrange(65536)])


def some_pipe(rng):
    """A pipe with anything in its places, whether it can come to that or not."""
    pipe = Pipe()
    pipe.registers = [some_number(rng) for k in range(8)]
    pipe.fetching = some_number(rng)
    near = some_number(rng)

    def address():
        return (near + rng.randrange(4)) % 65536 if rng.random() < 0.7 else some_number(rng)

    registers = [rng.randrange(8), rng.randrange(8)]

    def word():
        return some_word(rng, registers)

    if rng.random() < 0.7:
        pipe.in_read = (address(), word())
    if rng.random() < 0.7:
        x = some_number(rng)
        y = rng.choice([some_number(rng), some_number(rng), x, x ^ (1 << rng.randrange(16))])
        pipe.in_reckon = (address(), word(), x, y)
    if rng.random() < 0.7:
        v = rng.choice([some_number(rng), address(), pipe.fetching])
        pipe.in_memory = (address(), word(), v, some_number(rng))
    pipe.in_put = rng.choice([None, (rng.choice(registers), some_number(rng))])
    pipe.may, pipe.origin, pipe.cause = rng.randrange(2), some_number(rng), rng.randrange(32)
    pipe.halted = int(rng.random() < 0.05)
    return pipe


class Trial:
    """A tick of a pipe: what the net takes in, what it's to show and to hold behind it."""

    world = World()

    def __init__(self, seed):
        rng = random.Random(seed)
        pipe, world = some_pipe(rng), self.world
        world.waiting = [[some_number(rng)] for k in range(16)]
        line = rng.randrange(2)
        self.shown = shown_of(pipe, line)
        v = self.shown[1]
        kept = {address: some_number(rng) for address in (pipe.fetching, v) if address < 65520}
        for address, word in kept.items():
            world.memory[address] = word
        self.taken_in = (cells_of(pipe), world.fetched_at(pipe.fetching), world.looked_at(v), line)
        tick(pipe, world, line)
        self.behind = cells_of(pipe)
        for address in kept:
            world.memory[address] = 0

    def agrees(self, net):
        return net_tick(net, *self.taken_in) == (self.shown, self.behind)


class TheNet(unittest.TestCase):
    def test_from_any_cells(self):
        net = Net()
        for seed in range(4000):
            self.assertTrue(Trial(seed).agrees(net), seed)

    def test_v_of_what_is_no_instruction(self):
        net = Net()
        for word in [word for word in range(0, 65536, 11) if name_of(word) is None]:
            pipe = Pipe()
            pipe.in_reckon = (9, word, 65535, 1)
            # Memory's place is the parts 17 to 21 of the cells.
            memory = parted(net_tick(net, cells_of(pipe), 0, 0, 0)[1])[17:22]
            self.assertEqual([number_of(part) for part in memory], [1, 9, word, 0, 1])

    def test_what_it_takes_in_is_not_changed(self):
        net = Net()
        trial = Trial(1)
        before = list(trial.taken_in[0])
        net_tick(net, *trial.taken_in)
        self.assertEqual(trial.taken_in[0], before)
        self.assertEqual(net_tick(net, *trial.taken_in), net_tick(net, *trial.taken_in))

    def shown(self, memory, may=0, line=0, halted=0, fetching=7):
        """What's shown, which is the same of the pipe and of the net."""
        pipe = Pipe()
        pipe.fetching, pipe.in_memory, pipe.may, pipe.halted = fetching, memory, may, halted
        shown = net_tick(Net(), cells_of(pipe), 0, 0, line)[0]
        self.assertEqual(shown_of(pipe, line), shown)
        return shown

    def test_what_it_shows(self):
        self.assertEqual(self.shown(None), [7, 0, 0, 0, 0, 0, 0])
        self.assertEqual(self.shown(None, may=1, line=1, fetching=65535), [65535, 0, 0, 0, 0, 0, 0])
        self.assertEqual(self.shown((1, add(1, 2, 3), 50, 60)), [7, 50, 60, 0, 0, 1, 0])
        self.assertEqual(self.shown((1, st(1, 2, 3), 50, 60)), [7, 50, 60, 1, 0, 1, 0])
        self.assertEqual(self.shown((1, ld(1, 2, 3), 50, 60)), [7, 50, 60, 0, 1, 1, 0])
        for word in (RET, HALT, trap(2), 65535, own("let", 1), (6 << 12) | (15 << 12)):
            self.assertEqual(self.shown((1, word, 50, 60)), [7, 50, 60, 0, 0, 1, 0])
        self.assertEqual(self.shown(None, halted=1), [7, 0, 0, 0, 0, 0, 1])
        self.assertEqual(self.shown((1, st(1, 2, 3), 50, 60), halted=1), [7, 50, 60, 0, 0, 0, 1])
        self.assertEqual(self.shown((1, ld(1, 2, 3), 50, 60), halted=1), [7, 50, 60, 0, 0, 0, 1])

    def test_what_is_interrupted_is_no_store_and_no_load(self):
        for word, flags in ((st(1, 2, 3), [1, 0, 1, 0]), (ld(1, 2, 3), [0, 1, 1, 0])):
            for may in (0, 1):
                for line in (0, 1):
                    want = [0, 0, 1, 0] if may and line else flags
                    self.assertEqual(self.shown((1, word, 50, 60), may=may, line=line), [7, 50, 60] + want)

    def test_the_word_read_is_used_by_loads_alone(self):
        for word, used in ((ld(1, 2, 3), True), (st(1, 2, 3), False), (add(1, 2, 3), False), (ldi(1, 3), False),
                           (own("from", 1), False)):
            pipe = Pipe()
            pipe.in_memory = (1, word, 50, 60)
            net = Net()
            behind = [net_tick(net, cells_of(pipe), 0, read, 0)[1] for read in (0, 65535)]
            self.assertEqual(behind[0] != behind[1], used)

    def test_a_spoilt_gate_is_found(self):
        """So that the trials above say something of all gates.

        All but some thirty, which in the words of read and reckon ask whether kinds 11, 12 and 14 are instructions: such
        a word does nothing there in either case.
        """
        rng = random.Random(7)
        trials = [Trial(seed) for seed in range(2000)]
        net = Net()
        used = self.used(net)
        unfound = []
        for which in rng.sample(used, 100):
            table, one, other = net.gates.made[which]
            net.gates.made[which] = (15 - table, one, other)
            if all(trial.agrees(net) for trial in trials):
                unfound.append(which)
            net.gates.made[which] = (table, one, other)
        self.assertLess(len(unfound), 4, unfound)

    def used(self, net):
        """The gates on which something shown or held depends."""
        first = net.gates.wires - len(net.gates.made)
        wanted = set(net.behind).union(*net.showing)
        for which in reversed(range(len(net.gates.made))):
            if first + which in wanted:
                wanted.update(net.gates.made[which][1:])
        return [which for which in range(len(net.gates.made)) if first + which in wanted]


class AgainstTheSecondPipe(unittest.TestCase):
    def test_cells_of_any_pipe(self):
        for seed in range(300):
            pipe = some_pipe(random.Random(seed))
            second = SecondPipe()
            second.now = {"r": tuple(pipe.registers), "may": pipe.may, "from": pipe.origin, "cause": pipe.cause,
                          "halted": pipe.halted, "fetch": pipe.fetching, "read": pipe.in_read,
                          "reckon": pipe.in_reckon, "memory": pipe.in_memory, "put": pipe.in_put}
            self.assertEqual(packed(cells_of(pipe)), second.cells())


if __name__ == "__main__":
    unittest.main()
