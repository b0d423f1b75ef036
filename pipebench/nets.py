"""The pipe as a net of gates and cells."""

from pipebench.cells import CELLS, bits_of, number_of, parted
from pipebench.gate_places import GateMemory, GateRead, cause_behind, may_behind, origin_behind
from pipebench.gate_reckoning import GateReckon
from pipebench.gate_words import GateWord
from pipebench.gates import FIXED, Gates, run

WORD_BITS = 16


class CellWires:
    """The wires that come out of the cells, by what they carry."""

    def __init__(self, gates, wires):
        parts = parted(wires)
        self.registers = parts[0:8]
        self.fetching = parts[8]
        self.read_full = parts[9][0]
        self.read_address = parts[10]
        self.read_word = parts[11]
        self.reckon_full = parts[12][0]
        self.reckon_address = parts[13]
        self.reckon_word = parts[14]
        self.reckon_x = parts[15]
        self.reckon_y = parts[16]
        self.memory_full = parts[17][0]
        self.memory_address = parts[18]
        self.memory_word = parts[19]
        self.memory_v = parts[20]
        self.memory_s = parts[21]
        self.put_full = parts[22][0]
        self.put_number = parts[23]
        self.put_value = parts[24]
        self.may = parts[25][0]
        self.origin = parts[26]
        self.cause = parts[27]
        self.halted = parts[28][0]
        self.read = GateWord(gates, self.read_word)
        self.reckon = GateWord(gates, self.reckon_word)
        self.memory = GateWord(gates, self.memory_word)


def registers_behind(gates, cells):
    which = gates.masked(cells.put_full, gates.one_up(cells.put_number))
    return [gates.row_chosen(which[k], cells.registers[k], cells.put_value) for k in range(8)]


def place_behind(gates, full, row):
    """The cells of a place, all down where it's empty."""
    return [full] + gates.masked(full, row)


def read_behind(gates, cells, fetched, stopped, read):
    nothing = gates.either(stopped, gates.but_not(read.turns, read.waits))
    row = gates.row_chosen(read.waits, cells.fetching + fetched, cells.read_address + cells.read_word)
    return place_behind(gates, gates.opposite(nothing), row)


def fetching_behind(gates, cells, met, reckoned, read):
    # What counts before another comes behind it here, and is chosen over it.
    address = gates.one_more(cells.fetching)
    address = gates.row_chosen(read.turns, address, read.way)
    address = gates.row_chosen(read.waits, address, cells.fetching)
    address = gates.row_chosen(reckoned.another_way, address, reckoned.way)
    return gates.row_chosen(met.goes_on, address, met.way)


def cells_behind(gates, cells, fetched, met, reckoned):
    """What goes into the cells at a tick of a pipe that isn't halted."""
    registers = registers_behind(gates, cells)
    read = GateRead(gates, cells, registers, met, reckoned)
    stopped = gates.either(met.goes_on, reckoned.another_way)
    to_reckon = gates.but_not(cells.read_full, gates.either(stopped, read.waits))
    to_memory = gates.but_not(cells.reckon_full, met.goes_on)
    behind = []
    for row in registers:
        behind.extend(row)
    behind.extend(fetching_behind(gates, cells, met, reckoned, read))
    behind.extend(read_behind(gates, cells, fetched, stopped, read))
    behind.extend(place_behind(gates, to_reckon, cells.read_address + cells.read_word + read.x + read.y))
    memory_row = cells.reckon_address + cells.reckon_word + reckoned.v + cells.reckon_y
    behind.extend(place_behind(gates, to_memory, memory_row))
    behind.extend(place_behind(gates, met.to_put, met.d + met.value))
    behind.append(may_behind(gates, cells, met))
    behind.extend(origin_behind(gates, cells, met))
    behind.extend(cause_behind(gates, cells, met))
    behind.append(met.kinds[14])
    return behind


class Net:
    """The net: its gates, the wires that show something, those that go into the cells."""

    def __init__(self):
        self.gates = Gates(CELLS + 2 * WORD_BITS + 1)
        first = len(FIXED)
        held = list(range(first, first + CELLS))
        fetched = list(range(first + CELLS, first + CELLS + WORD_BITS))
        word_read = [wire + WORD_BITS for wire in fetched]
        line = word_read[-1] + 1
        cells = CellWires(self.gates, held)
        met = GateMemory(self.gates, cells, word_read, line)
        reckoned = GateReckon(self.gates, cells)
        behind = cells_behind(self.gates, cells, fetched, met, reckoned)
        self.behind = self.gates.row_chosen(cells.halted, behind, held)
        self.showing = (
            cells.fetching, cells.memory_v, cells.memory_s, [met.store], [met.load], [met.done], [cells.halted],
        )


def net_tick(net, held, fetched, word_read, line):
    """A tick of the net with those bits in its cells.

    Answers what it shows: fetch's address, v, s, whether s is put, a load is
    done, something's done, it was halted; and the bits in its cells behind it.
    """
    taken_in = bits_of(fetched, WORD_BITS) + bits_of(word_read, WORD_BITS) + [line]
    carried = run(net.gates, held + taken_in)
    shown = [number_of([carried[wire] for wire in row]) for row in net.showing]
    return (shown, [carried[wire] for wire in net.behind])
