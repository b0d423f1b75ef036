"""The places memory and read of gates."""

from pipebench.gate_words import first_read, second_read, turns_wire, writes_wire
from pipebench.gates import HIGH, LOW, constant
from pipebench.traps import CAUSE_INTERRUPT, CAUSE_NO_INSTRUCTION, TRAP_ADDRESS


def store_hits(gates, cells):
    """Whether memory's v is an address of what's begun behind it."""
    v = cells.memory_v
    return gates.any_of([
        gates.both(cells.reckon_full, gates.alike(v, cells.reckon_address)),
        gates.both(cells.read_full, gates.alike(v, cells.read_address)),
        gates.alike(v, cells.fetching),
    ])


class GateMemory:
    """What comes out of memory's place."""

    def __init__(self, gates, cells, word_read, line):
        word = cells.memory
        self.done = gates.but_not(cells.memory_full, cells.halted)
        self.interrupted = gates.all_of([self.done, cells.may, line])
        undisturbed = gates.but_not(self.done, self.interrupted)
        self.wrong = gates.but_not(undisturbed, word.instruction)
        # Which kind is done, if one is.
        self.kinds = gates.masked(undisturbed, word.kinds)
        self.following = gates.one_more(cells.memory_address)
        self.load = self.kinds[5]
        self.store = self.kinds[6]
        self.trapped = gates.any_of([self.interrupted, self.wrong, self.kinds[11]])
        begun_again = gates.both(self.store, store_hits(gates, cells))
        self.goes_on = gates.any_of([self.trapped, self.kinds[12], self.kinds[14], begun_again])
        self.way = gates.picked([
            (self.trapped, constant(TRAP_ADDRESS, 16)),
            (self.kinds[12], cells.origin),
            (self.kinds[14], cells.memory_address),
            (begun_again, self.following),
        ])
        self.to_put = gates.both(undisturbed, writes_wire(gates, word))
        self.d = word.d
        self.value = self.value_to_put(gates, cells, word_read)

    def value_to_put(self, gates, cells, word_read):
        fs = cells.memory.fs
        own = self.kinds[13]
        special = gates.either(self.load, own)
        return gates.picked([
            (gates.opposite(special), cells.memory_v),
            (self.load, word_read),
            (gates.both(own, fs[0]), cells.origin),
            (gates.both(own, fs[1]), cells.cause + [LOW] * 11),
            (gates.both(own, fs[4]), [cells.may] + [LOW] * 15),
        ])


def origin_behind(gates, cells, met):
    back = gates.both(met.kinds[13], cells.memory.fs[2])
    stays = gates.opposite(gates.either(met.trapped, back))
    return gates.picked([
        (gates.either(met.interrupted, met.wrong), cells.memory_address),
        (met.kinds[11], met.following),
        (back, cells.memory_v),
        (stays, cells.origin),
    ])


def cause_behind(gates, cells, met):
    return gates.picked([
        (met.interrupted, constant(CAUSE_INTERRUPT, 5)),
        (met.wrong, constant(CAUSE_NO_INSTRUCTION, 5)),
        # 16 and the number of the trap, which has three bits.
        (met.kinds[11], cells.memory_word[0:3] + [LOW, HIGH]),
        (gates.opposite(met.trapped), cells.cause),
    ])


def may_behind(gates, cells, met):
    let = gates.both(met.kinds[13], cells.memory.fs[3])
    after_let = gates.chosen(let, cells.may, cells.memory_v[0])
    return gates.but_not(gates.either(after_let, met.kinds[12]), met.trapped)


def value_wires(gates, registers, met, reckoned, number):
    """The value of the register whose number comes in on wires; registers are as put leaves them."""
    which = gates.one_up(number)
    value = gates.picked([(which[k], registers[k]) for k in range(8)])
    from_memory = gates.both(met.to_put, gates.alike(met.d, number))
    value = gates.row_chosen(from_memory, value, met.value)
    from_reckon = gates.both(reckoned.writes, gates.alike(reckoned.d, number))
    return gates.row_chosen(from_reckon, value, reckoned.v)


class GateRead:
    """What comes out of read's place."""

    def __init__(self, gates, cells, registers, met, reckoned):
        word = cells.read
        first = first_read(gates, word)
        second = second_read(gates, word)
        self.x = gates.masked(first[0], value_wires(gates, registers, met, reckoned, first[1]))
        self.y = gates.masked(second[0], value_wires(gates, registers, met, reckoned, second[1]))
        wanted = gates.either(
            gates.both(first[0], gates.alike(first[1], reckoned.d)),
            gates.both(second[0], gates.alike(second[1], reckoned.d)),
        )
        self.waits = gates.all_of([cells.read_full, reckoned.writes_late, wanted])
        self.turns = gates.both(cells.read_full, turns_wire(gates, word))
        self.way = gates.summed(gates.one_more(cells.read_address), word.i9, LOW)[0:16]
