"""Words, numbers with a sign, and the parts of an instruction's word."""

SIZE = 65536


def with_sign(number, size):
    """What a number counts as with a sign, among the numbers below size."""
    if number >= size // 2:
        return number - size
    return number


def next_of(address):
    return (address + 1) % SIZE


def op_of(word):
    return word // 4096


def d_of(word):
    return word // 512 % 8


def a_of(word):
    return word // 64 % 8


def b_of(word):
    return word // 8 % 8


def f_of(word):
    return word % 8


def i6_of(word):
    return with_sign(word % 64, 64) % SIZE


def i9_of(word):
    return with_sign(word % 512, 512) % SIZE


def i8_of(word):
    return word % 256


def last_bits_of(word):
    """The 12 bits behind op."""
    return word % 4096
