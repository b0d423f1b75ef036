"""Which words are instructions, and what an instruction asks for."""

from pipebench.words import a_of, b_of, d_of, f_of, i9_of, last_bits_of, op_of

NO_REGISTER = 8


def is_instruction(word):
    op = op_of(word)
    if op == 1:
        return f_of(word) < 3
    if op == 4:
        return word // 256 % 2 == 0
    if op == 11:
        return last_bits_of(word) < 8
    if op == 12 or op == 14:
        return last_bits_of(word) == 0
    if op == 13:
        return a_of(word) == 0 and b_of(word) == 0 and f_of(word) < 5
    return op < 15


def reads(word):
    """The registers that the word reads, the one that gives x first."""
    if not is_instruction(word):
        return ()
    op = op_of(word)
    if op in (0, 1):
        return (a_of(word), b_of(word))
    if op in (2, 5, 10):
        return (a_of(word),)
    if op == 6:
        return (a_of(word), d_of(word))
    if op in (4, 7, 8):
        return (d_of(word),)
    if op == 13 and f_of(word) in (2, 3):
        return (d_of(word),)
    return ()


def writes(word):
    """The register that the word writes, or NO_REGISTER."""
    if not is_instruction(word):
        return NO_REGISTER
    op = op_of(word)
    if op in (0, 1, 2, 3, 4, 5, 9, 10):
        return d_of(word)
    if op == 13 and f_of(word) in (0, 1, 4):
        return d_of(word)
    return NO_REGISTER


def writes_late(word):
    return op_of(word) in (5, 13) and writes(word) != NO_REGISTER


def turns(word):
    op = op_of(word)
    if op == 7 or op == 8:
        return i9_of(word) >= 32768
    return op == 9
