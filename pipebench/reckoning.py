"""What an instruction makes of the values that it has read."""

from pipebench.instructions import is_instruction, turns
from pipebench.words import SIZE, f_of, i6_of, i8_of, i9_of, next_of, op_of, with_sign


def combined(f, x, y):
    """What kind 0 makes of x and y."""
    k = y % 16
    if f == 0:
        return (x + y) % SIZE
    if f == 1:
        return (x - y) % SIZE
    if f == 2:
        return x & y
    if f == 3:
        return x | y
    if f == 4:
        return x ^ y
    if f == 5:
        return (x << k) % SIZE
    if f == 6:
        return x >> k
    return (with_sign(x, SIZE) >> k) % SIZE


def compared(f, x, y):
    """What kind 1 makes of x and y."""
    if f == 0:
        return 1 if with_sign(x, SIZE) < with_sign(y, SIZE) else 0
    if f == 1:
        return 1 if x < y else 0
    return 1 if x == y else 0


def reckoned(address, word, x, y):
    """The v that goes to memory's place."""
    # What's no instruction is of no kind, whatever its op.
    if not is_instruction(word):
        return 0
    op = op_of(word)
    if op == 0:
        return combined(f_of(word), x, y)
    if op == 1:
        return compared(f_of(word), x, y)
    if op in (2, 5, 6):
        return (x + i6_of(word)) % SIZE
    if op == 3:
        return i9_of(word)
    if op == 4:
        return i8_of(word) * 256 + x % 256
    if op == 9 or op == 10:
        return next_of(address)
    if op == 13:
        return x
    return 0


def branch_end(address, word):
    """Where kinds 7, 8 and 9 lead when they don't go on at next."""
    return (next_of(address) + i9_of(word)) % SIZE


def jump_end(word, x):
    """Where kind 10 leads."""
    return (x + i6_of(word)) % SIZE


def branch_taken(word, x):
    """Whether a word of kind 7 or 8 leads away from next."""
    if op_of(word) == 7:
        return x == 0
    return x != 0


def other_way(address, word, x):
    """Where fetching has to go on instead, or None if it went the right way."""
    op = op_of(word)
    if op == 10:
        return jump_end(word, x)
    if op != 7 and op != 8:
        return None
    taken = branch_taken(word, x)
    if taken and not turns(word):
        return branch_end(address, word)
    if turns(word) and not taken:
        return next_of(address)
    return None
