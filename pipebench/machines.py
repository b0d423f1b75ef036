"""The manual's machine and its step."""

from pipebench.instructions import NO_REGISTER, is_instruction, reads, writes
from pipebench.reckoning import branch_end, branch_taken, jump_end, reckoned
from pipebench.states import State, own_state, seen_with
from pipebench.traps import CAUSE_INTERRUPT, CAUSE_NO_INSTRUCTION, CAUSE_TRAP, TRAP_ADDRESS, trapped
from pipebench.words import last_bits_of, next_of, op_of


class Machine(State):
    """The manual's machine, at first all 0."""

    def __init__(self):
        State.__init__(self)
        self.pc = 0


def machine_seen(machine):
    return seen_with(machine, machine.pc, list(machine.registers))


def pc_behind(machine, word, x):
    """Where pc is behind the instruction, the machine being as it was before."""
    op = op_of(word)
    if op == 9 or (op in (7, 8) and branch_taken(word, x)):
        return branch_end(machine.pc, word)
    if op == 10:
        return jump_end(word, x)
    if op == 11:
        return TRAP_ADDRESS
    if op == 12:
        return machine.origin
    if op == 14:
        return machine.pc
    return next_of(machine.pc)


def value_made(machine, world, word, v, s):
    """Do what the instruction does to all but registers and pc; answer what's for its register, if it writes one."""
    op = op_of(word)
    if op == 5:
        return world.read_at(v)
    if op == 13:
        return own_state(machine, word, v)
    if op == 6:
        world.put_at(v, s)
    elif op == 11:
        trapped(machine, CAUSE_TRAP + last_bits_of(word), next_of(machine.pc))
    elif op == 12:
        machine.may = 1
    elif op == 14:
        machine.halted = 1
    return v


def do_instruction(machine, world, word):
    values = [machine.registers[number] for number in reads(word)]
    values.extend([0, 0])
    v = reckoned(machine.pc, word, values[0], values[1])
    # Before anything's changed, as a jr may write what it goes by, and ret goes by from.
    pc = pc_behind(machine, word, values[0])
    value = value_made(machine, world, word, v, values[1])
    if writes(word) != NO_REGISTER:
        machine.registers[writes(word)] = value
    machine.pc = pc


def step(machine, world, line):
    """Do a step of the manual, the line being up (1) or not (0)."""
    if machine.halted == 0:
        word = world.fetched_at(machine.pc)
        if machine.may == 1 and line == 1:
            machine.pc = trapped(machine, CAUSE_INTERRUPT, machine.pc)
        elif not is_instruction(word):
            machine.pc = trapped(machine, CAUSE_NO_INSTRUCTION, machine.pc)
        else:
            do_instruction(machine, world, word)
