"""What the manual's machine and the pipe both have."""

from pipebench.words import f_of


class State:
    """Registers, may, from, cause and halted, at first all 0."""

    def __init__(self):
        self.registers = [0] * 8
        self.may = 0
        # What the document calls from, a word that Python keeps for itself.
        self.origin = 0
        self.cause = 0
        self.halted = 0


def seen_with(state, pc, registers):
    """What's seen from outside: pc, may, from, cause, halted, r0 to r7."""
    return [pc, state.may, state.origin, state.cause, state.halted] + registers


def own_state(state, word, v):
    """Do kind 13, v being what it reads; answer what's for its register, or None."""
    f = f_of(word)
    if f == 0:
        return state.origin
    if f == 1:
        return state.cause
    if f == 4:
        return state.may
    if f == 2:
        state.origin = v
    else:
        state.may = v % 2
    return None
