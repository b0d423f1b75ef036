"""A pipe looked at beside the manual and beside the net, on copies of all that would change."""

from pipebench.cells import cells_of
from pipebench.instructions import is_instruction
from pipebench.lines import line_at
from pipebench.machines import Machine, machine_seen, step
from pipebench.nets import net_tick
from pipebench.pipes import pc_of, registers_seen, seen, tick
from pipebench.words import op_of
from pipebench.worlds import worlds_alike


def machine_of(pipe):
    """The manual's machine as it's seen of the pipe."""
    machine = Machine()
    machine.registers = registers_seen(pipe)
    machine.pc = pc_of(pipe)
    machine.may = pipe.may
    machine.origin = pipe.origin
    machine.cause = pipe.cause
    machine.halted = pipe.halted
    return machine


def seen_behind_steps(pipe, world, many, up):
    """What's seen behind that many steps of the manual."""
    machine = machine_of(pipe)
    its_world = world.copied()
    for number in range(many):
        step(machine, its_world, line_at(up, number))
    return machine_seen(machine)


def beside_manual(pipe, world, many, up):
    """How many things are done at that many ticks; 1 if the manual's steps come to the same, else 0."""
    machine = machine_of(pipe)
    its_world = world.copied()
    own_pipe = pipe.copied()
    own_world = world.copied()
    things = 0
    for number in range(many):
        line = line_at(up, number)
        if tick(own_pipe, own_world, line)[0] == 1:
            things = things + 1
            step(machine, its_world, line)
    alike = seen(own_pipe) == machine_seen(machine) and worlds_alike(own_world, its_world)
    return [things, 1 if alike else 0]


def shown_of(pipe, line):
    """What the net is to show at a tick of the pipe."""
    v = 0
    s = 0
    kind_done = None
    done = 0
    if pipe.in_memory is not None:
        word = pipe.in_memory[1]
        v = pipe.in_memory[2]
        s = pipe.in_memory[3]
        done = 1 - pipe.halted
        if done == 1 and is_instruction(word) and not (pipe.may == 1 and line == 1):
            kind_done = op_of(word)
    return [pipe.fetching, v, s, 1 if kind_done == 6 else 0, 1 if kind_done == 5 else 0, done, pipe.halted]


def first_unlike(net, pipe, world, many, up):
    """The first of that many ticks at which the net does another thing than the pipe, or None."""
    own_pipe = pipe.copied()
    own_world = world.copied()
    held = cells_of(own_pipe)
    for number in range(many):
        line = line_at(up, number)
        to_show = shown_of(own_pipe, line)
        fetched = own_world.fetched_at(to_show[0])
        word_read = own_world.looked_at(to_show[1])
        made = net_tick(net, held, fetched, word_read, line)
        tick(own_pipe, own_world, line)
        held = made[1]
        if made[0] != to_show or held != cells_of(own_pipe):
            return number
    return None
