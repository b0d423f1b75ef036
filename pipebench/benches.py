"""The bench: a pipe and its world, and what each call does to them and answers."""

from pipebench.calls import read_calls
from pipebench.pipes import Pipe, empty_pipe, seen, tick
from pipebench.worlds import MEMORY_SIZE, OUTSIDES, World

OUT_OF_RANGE = -1
TOO_MANY_WAIT = -3

MOST_GOT = 64
MOST_WAITING = 64
MOST_TICKS = 2000
REGISTERS = 8


class CallNotBuilt(NotImplementedError):
    """A call of the interface that this bench can't answer yet."""


class Bench:
    """A bench on which all is as at first."""

    def __init__(self):
        self.pipe = Pipe()
        self.world = World()

    def line_tick(self, number, up):
        """Do the tick of that number; answer 1 if something's done, else 0."""
        return tick(self.pipe, self.world, 1 if number in up else 0)


def beyond_memory(start, many):
    # No words stand nowhere, wherever they would begin.
    return many > 0 and start + many > MEMORY_SIZE


def marked(ups):
    """The numbers of ups as the keys of a dict, for quick asking."""
    up = {}
    for number in ups:
        up[number] = True
    return up


def do_new(bench, whole, row):
    bench.pipe = Pipe()
    bench.world = World()
    return [0]


def do_put(bench, whole, row):
    start = whole[0]
    if beyond_memory(start, len(row)):
        return [OUT_OF_RANGE]
    empty_pipe(bench.pipe)
    for k, word in enumerate(row):
        bench.world.put_at(start + k, word)
    return [len(row)]


def do_get(bench, whole, row):
    start = whole[0]
    many = whole[1]
    if many > MOST_GOT or beyond_memory(start, many):
        return [OUT_OF_RANGE]
    return [many] + bench.world.memory[start:start + many]


def do_set(bench, whole, row):
    if whole[0] >= REGISTERS:
        return [OUT_OF_RANGE]
    empty_pipe(bench.pipe)
    bench.pipe.registers[whole[0]] = whole[1]
    return [0]


def do_go(bench, whole, row):
    empty_pipe(bench.pipe)
    bench.pipe.fetching = whole[0]
    bench.pipe.halted = 0
    return [0]


def do_feed(bench, whole, row):
    if whole[0] >= OUTSIDES:
        return [OUT_OF_RANGE]
    waiting = bench.world.waiting[whole[0]]
    if len(waiting) + len(row) > MOST_WAITING:
        return [TOO_MANY_WAIT]
    waiting.extend(row)
    return [len(waiting)]


def do_told(bench, whole, row):
    answer = [len(bench.world.to_tell)]
    for pair in bench.world.to_tell:
        answer.append(pair[0])
        answer.append(pair[1])
    bench.world.to_tell = []
    return answer


def do_tick(bench, whole, row):
    if whole[0] > MOST_TICKS:
        return [OUT_OF_RANGE]
    up = marked(row)
    things = 0
    for number in range(whole[0]):
        things = things + bench.line_tick(number, up)
    return [things, bench.pipe.halted]


def till_end(bench, things, wanted):
    """The last number that till answers."""
    if things >= wanted:
        return 0
    if bench.pipe.halted == 1:
        return 1
    return 2


def do_till(bench, whole, row):
    wanted = whole[0]
    most = whole[1]
    if most > MOST_TICKS:
        return [OUT_OF_RANGE]
    up = marked(row)
    ticks = 0
    things = 0
    while things < wanted and bench.pipe.halted == 0 and ticks < most:
        things = things + bench.line_tick(ticks, up)
        ticks = ticks + 1
    return [ticks, things, till_end(bench, things, wanted)]


def do_seen(bench, whole, row):
    return seen(bench.pipe)


# By the calls' numbers.
DOERS = (do_new, do_put, do_get, do_set, do_go, do_feed, do_told, do_tick, do_till, do_seen)


def answer_of(bench, call):
    if call[0] >= len(DOERS):
        raise CallNotBuilt(str(call[0]))
    return DOERS[call[0]](bench, call[1], call[2])


def answers(calls):
    """For each call, in order, how many numbers are answered; these."""
    bench = Bench()
    given = []
    for call in read_calls(calls):
        answer = answer_of(bench, call)
        given.append(len(answer))
        given.extend(answer)
    return given
