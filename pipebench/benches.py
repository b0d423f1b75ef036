"""The bench: a pipe and its world, and what each call does to them and answers."""

from pipebench.calls import read_calls
from pipebench.cells import cells_of, packed
from pipebench.instructions import is_instruction, reads, turns, writes, writes_late
from pipebench.lines import line_at, marked
from pipebench.nets import Net
from pipebench.pipes import Pipe, empty_pipe, seen, tick
from pipebench.trials import beside_manual, first_unlike, seen_behind_steps
from pipebench.worlds import MEMORY_SIZE, OUTSIDES, World

OUT_OF_RANGE = -1
TOO_MANY_WAIT = -3
NO_SUCH = -4

MOST_GOT = 64
MOST_WAITING = 64
MOST_TICKS = 2000
MOST_TRACED = 64
MOST_NET_TICKS = 64
REGISTERS = 8
PLACES = 5
SLOTS = 4

# Where a trace tells no address.
NO_ADDRESS = 65536


class Bench:
    """A bench on which all is as at first and nothing is saved."""

    def __init__(self):
        self.begin()
        self.slots = [None] * SLOTS
        # Made when it's asked for first, as most lists of calls don't ask for it.
        self.net = None

    def begin(self):
        self.pipe = Pipe()
        self.world = World()
        # Ticks, ticks at which something was done, ticks of the kinds 1 to 4.
        self.counts = [0] * 6

    def counted_tick(self, number, up):
        """Do the tick of that number; answer 1 if something's done, else 0; and the tick's kind."""
        made = tick(self.pipe, self.world, line_at(up, number))
        self.counts[0] = self.counts[0] + 1
        self.counts[1] = self.counts[1] + made[0]
        if 1 <= made[1] <= 4:
            self.counts[1 + made[1]] = self.counts[1 + made[1]] + 1
        return made


def beyond_memory(start, many):
    # No words stand nowhere, wherever they would begin.
    return many > 0 and start + many > MEMORY_SIZE


def do_new(bench, whole, row):
    bench.begin()
    return [0]


def do_put(bench, whole, row):
    start = whole[0]
    if beyond_memory(start, len(row)):
        return [OUT_OF_RANGE]
    empty_pipe(bench.pipe)
    for k, word in enumerate(row):
        bench.world.put_at(start + k, word)
    return [len(row)]


def do_get(bench, whole, row):
    start = whole[0]
    many = whole[1]
    if many > MOST_GOT or beyond_memory(start, many):
        return [OUT_OF_RANGE]
    return [many] + bench.world.memory[start:start + many]


def do_set(bench, whole, row):
    if whole[0] >= REGISTERS:
        return [OUT_OF_RANGE]
    empty_pipe(bench.pipe)
    bench.pipe.registers[whole[0]] = whole[1]
    return [0]


def do_go(bench, whole, row):
    empty_pipe(bench.pipe)
    bench.pipe.fetching = whole[0]
    bench.pipe.halted = 0
    return [0]


def do_feed(bench, whole, row):
    if whole[0] >= OUTSIDES:
        return [OUT_OF_RANGE]
    waiting = bench.world.waiting[whole[0]]
    if len(waiting) + len(row) > MOST_WAITING:
        return [TOO_MANY_WAIT]
    waiting.extend(row)
    return [len(waiting)]


def do_told(bench, whole, row):
    answer = [len(bench.world.to_tell)]
    for pair in bench.world.to_tell:
        answer.append(pair[0])
        answer.append(pair[1])
    bench.world.to_tell = []
    return answer


def do_tick(bench, whole, row):
    if whole[0] > MOST_TICKS:
        return [OUT_OF_RANGE]
    up = marked(row)
    things = 0
    for number in range(whole[0]):
        things = things + bench.counted_tick(number, up)[0]
    return [things, bench.pipe.halted]


def till_end(bench, things, wanted):
    """The last number that till answers."""
    if things >= wanted:
        return 0
    if bench.pipe.halted == 1:
        return 1
    return 2


def do_till(bench, whole, row):
    wanted = whole[0]
    most = whole[1]
    if most > MOST_TICKS:
        return [OUT_OF_RANGE]
    up = marked(row)
    ticks = 0
    things = 0
    while things < wanted and bench.pipe.halted == 0 and ticks < most:
        things = things + bench.counted_tick(ticks, up)[0]
        ticks = ticks + 1
    return [ticks, things, till_end(bench, things, wanted)]


def do_seen(bench, whole, row):
    return seen(bench.pipe)


def place_answer(pipe, number):
    """What place answers of a place that there is."""
    if number == 0:
        return [0] if pipe.halted == 1 else [1, pipe.fetching]
    place = (pipe.in_read, pipe.in_reckon, pipe.in_memory, pipe.in_put)[number - 1]
    if place is None:
        return [0]
    return [1] + list(place)


def do_place(bench, whole, row):
    if whole[0] >= PLACES:
        return [OUT_OF_RANGE]
    return place_answer(bench.pipe, whole[0])


def addresses(pipe):
    """The addresses in fetch, read, reckon, memory as trace tells them."""
    told = []
    for number in range(4):
        answer = place_answer(pipe, number)
        told.append(answer[1] if answer[0] == 1 else NO_ADDRESS)
    return told


def do_trace(bench, whole, row):
    if whole[0] > MOST_TRACED:
        return [OUT_OF_RANGE]
    up = marked(row)
    answer = []
    for number in range(whole[0]):
        answer.extend(addresses(bench.pipe))
        answer.extend(bench.counted_tick(number, up))
    return answer


def do_counts(bench, whole, row):
    return list(bench.counts)


def do_asks(bench, whole, row):
    word = whole[0]
    if not is_instruction(word):
        return [NO_SUCH]
    numbers = list(reads(word))
    late = 1 if writes_late(word) else 0
    return [len(numbers)] + numbers + [writes(word), late, 1 if turns(word) else 0]


def do_manual(bench, whole, row):
    if whole[0] > MOST_TICKS:
        return [OUT_OF_RANGE]
    return seen_behind_steps(bench.pipe, bench.world, whole[0], marked(row))


def do_same(bench, whole, row):
    if whole[0] > MOST_TICKS:
        return [OUT_OF_RANGE]
    return beside_manual(bench.pipe, bench.world, whole[0], marked(row))


def do_cells(bench, whole, row):
    return packed(cells_of(bench.pipe))


def do_nets(bench, whole, row):
    if whole[0] > MOST_NET_TICKS:
        return [OUT_OF_RANGE]
    if bench.net is None:
        bench.net = Net()
    number = first_unlike(bench.net, bench.pipe, bench.world, whole[0], marked(row))
    return [1] if number is None else [0, number]


def do_save(bench, whole, row):
    if whole[0] >= SLOTS:
        return [OUT_OF_RANGE]
    bench.slots[whole[0]] = (bench.pipe.copied(), bench.world.copied(), list(bench.counts))
    return [0]


def do_back(bench, whole, row):
    if whole[0] >= SLOTS or bench.slots[whole[0]] is None:
        return [NO_SUCH]
    saved = bench.slots[whole[0]]
    bench.pipe = saved[0].copied()
    bench.world = saved[1].copied()
    bench.counts = list(saved[2])
    return [0]


# By the calls' numbers.
DOERS = (
    do_new, do_put, do_get, do_set, do_go, do_feed, do_told, do_tick, do_till, do_seen,
    do_place, do_trace, do_counts, do_asks, do_manual, do_same, do_cells, do_nets, do_save, do_back,
)


def answers(calls):
    """For each call, in order, how many numbers are answered; these."""
    bench = Bench()
    given = []
    for call in read_calls(calls):
        answer = DOERS[call[0]](bench, call[1], call[2])
        given.append(len(answer))
        given.extend(answer)
    return given
