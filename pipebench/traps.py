"""The trap."""

TRAP_ADDRESS = 2
CAUSE_INTERRUPT = 1
CAUSE_NO_INSTRUCTION = 2
CAUSE_TRAP = 16


def trapped(state, cause, origin):
    """Do a trap, from the place origin; answer where it goes on."""
    state.origin = origin
    state.cause = cause
    state.may = 0
    return TRAP_ADDRESS
