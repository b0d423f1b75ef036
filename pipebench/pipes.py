"""The pipe and its tick."""

from pipebench.instructions import NO_REGISTER, is_instruction, reads, turns, writes, writes_late
from pipebench.reckoning import branch_end, other_way, reckoned
from pipebench.states import State, own_state, seen_with
from pipebench.traps import CAUSE_INTERRUPT, CAUSE_NO_INSTRUCTION, CAUSE_TRAP, trapped
from pipebench.words import d_of, last_bits_of, next_of, op_of

# The kinds of ticks.
WENT_STRAIGHT = 0
WENT_ON = 1
WENT_ANOTHER_WAY = 2
WAITED = 3
TURNED = 4
WAS_HALTED = 5


class Pipe(State):
    """A pipe, at first all 0 and empty.

    An empty place is None. Else in_read is (address, word), in_reckon is
    (address, word, x, y), in_memory is (address, word, v, s) and in_put is
    (which one of the registers, value).
    """

    def __init__(self):
        State.__init__(self)
        self.fetching = 0
        self.in_read = None
        self.in_reckon = None
        self.in_memory = None
        self.in_put = None

    def copied(self):
        other = Pipe()
        other.registers = list(self.registers)
        other.may = self.may
        other.origin = self.origin
        other.cause = self.cause
        other.halted = self.halted
        other.fetching = self.fetching
        other.in_read = self.in_read
        other.in_reckon = self.in_reckon
        other.in_memory = self.in_memory
        other.in_put = self.in_put
        return other


def pc_of(pipe):
    for place in (pipe.in_memory, pipe.in_reckon, pipe.in_read):
        if place is not None:
            return place[0]
    return pipe.fetching


def registers_seen(pipe):
    registers = list(pipe.registers)
    if pipe.in_put is not None:
        registers[pipe.in_put[0]] = pipe.in_put[1]
    return registers


def seen(pipe):
    return seen_with(pipe, pc_of(pipe), registers_seen(pipe))


def take_back(pipe, address):
    """Empty the places behind memory's and memory's own; fetching goes on at address."""
    pipe.in_memory = None
    pipe.in_reckon = None
    pipe.in_read = None
    pipe.fetching = address


def empty_pipe(pipe):
    pipe.registers = registers_seen(pipe)
    pipe.in_put = None
    take_back(pipe, pc_of(pipe))


def stored(pipe, world):
    """Do a store; answer where it goes on, or None."""
    place = pipe.in_memory
    world.put_at(place[2], place[3])
    begun = [pipe.fetching]
    for behind in (pipe.in_read, pipe.in_reckon):
        if behind is not None:
            begun.append(behind[0])
    # What was fetched there, or is being fetched, may be out of date now.
    if place[2] in begun:
        return next_of(place[0])
    return None


def led_away(pipe):
    """Do kind 11, 12 or 14; answer where it goes on."""
    address = pipe.in_memory[0]
    word = pipe.in_memory[1]
    op = op_of(word)
    if op == 11:
        return trapped(pipe, CAUSE_TRAP + last_bits_of(word), next_of(address))
    if op == 12:
        pipe.may = 1
        return pipe.origin
    pipe.halted = 1
    return address


def own_to_put(pipe):
    """Do kind 13; answer what goes to put, or None."""
    word = pipe.in_memory[1]
    value = own_state(pipe, word, pipe.in_memory[2])
    if value is None:
        return None
    return (d_of(word), value)


def meet_memory(pipe, world, line):
    """Do what memory's place does; answer where it goes on and what goes to put, each or None."""
    place = pipe.in_memory
    if place is None:
        return (None, None)
    word = place[1]
    if pipe.may == 1 and line == 1:
        return (trapped(pipe, CAUSE_INTERRUPT, place[0]), None)
    if not is_instruction(word):
        return (trapped(pipe, CAUSE_NO_INSTRUCTION, place[0]), None)
    op = op_of(word)
    if op in (11, 12, 14):
        return (led_away(pipe), None)
    if op == 6:
        return (stored(pipe, world), None)
    if op == 13:
        return (None, own_to_put(pipe))
    if op == 5:
        return (None, (d_of(word), world.read_at(place[2])))
    if writes(word) != NO_REGISTER:
        return (None, (d_of(word), place[2]))
    return (None, None)


def reckon(place):
    """What goes to memory's place from reckon's."""
    if place is None:
        return None
    return (place[0], place[1], reckoned(place[0], place[1], place[2], place[3]), place[3])


def way_of(place):
    """Where another way is gone by what stands in reckon, or None."""
    if place is None:
        return None
    return other_way(place[0], place[1], place[2])


def waits(pipe):
    """Whether read's place waits for what reckon's writes late."""
    if pipe.in_read is None or pipe.in_reckon is None:
        return False
    ahead = pipe.in_reckon[1]
    return writes_late(ahead) and writes(ahead) in reads(pipe.in_read[1])


def value_of(pipe, number, to_memory, to_put):
    """The value of a register for read's place; the youngest one made counts."""
    if to_memory is not None and writes(to_memory[1]) == number:
        return to_memory[2]
    if to_put is not None and to_put[0] == number:
        return to_put[1]
    if pipe.in_put is not None and pipe.in_put[0] == number:
        return pipe.in_put[1]
    return pipe.registers[number]


def read_values(pipe, to_memory, to_put):
    """What goes to reckon's place from read's."""
    if pipe.in_read is None:
        return None
    values = [value_of(pipe, number, to_memory, to_put) for number in reads(pipe.in_read[1])]
    values.extend([0, 0])
    return (pipe.in_read[0], pipe.in_read[1], values[0], values[1])


def fetch(pipe, world):
    pipe.in_read = (pipe.fetching, world.fetched_at(pipe.fetching))
    pipe.fetching = next_of(pipe.fetching)


def turn_or_fetch(pipe, world):
    """Let read's place turn or fetch go on; answer the tick's kind."""
    place = pipe.in_read
    if place is not None and turns(place[1]):
        pipe.in_read = None
        pipe.fetching = branch_end(place[0], place[1])
        return TURNED
    fetch(pipe, world)
    return WENT_STRAIGHT


def move_on(pipe, world, to_put):
    """Move reckon, read and fetch on, where memory's place lets them; answer the tick's kind."""
    to_memory = reckon(pipe.in_reckon)
    way = way_of(pipe.in_reckon)
    if way is not None:
        take_back(pipe, way)
        kind = WENT_ANOTHER_WAY
    elif waits(pipe):
        pipe.in_reckon = None
        kind = WAITED
    else:
        pipe.in_reckon = read_values(pipe, to_memory, to_put)
        kind = turn_or_fetch(pipe, world)
    pipe.in_memory = to_memory
    return kind


def tick(pipe, world, line):
    """Do a tick, the line being up (1) or not (0).

    Answers 1 if something's done, else 0; and the tick's kind.
    """
    if pipe.halted == 1:
        return (0, WAS_HALTED)
    done = 0 if pipe.in_memory is None else 1
    # Memory's place may change the world first: where that could show in what
    # fetch or read takes from it, they do nothing in this tick.
    met = meet_memory(pipe, world, line)
    if met[0] is not None:
        take_back(pipe, met[0])
        kind = WENT_ON
    else:
        kind = move_on(pipe, world, met[1])
    # Only now, as the values read above are those from before the tick.
    if pipe.in_put is not None:
        pipe.registers[pipe.in_put[0]] = pipe.in_put[1]
    pipe.in_put = met[1]
    return (done, kind)
