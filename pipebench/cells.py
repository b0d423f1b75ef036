"""The cells: what a pipe holds, as bits."""

# How many bits each number has, in the cells' order: r0 to r7; fetch; read; reckon; memory; put; may, from, cause,
# halted. At the head of each place but fetch's stands the 1 bit that tells whether it isn't empty.
WIDTHS = (
    16, 16, 16, 16, 16, 16, 16, 16,
    16,
    1, 16, 16,
    1, 16, 16, 16, 16,
    1, 16, 16, 16, 16,
    1, 3, 16,
    1, 16, 5, 1,
)
CELLS = 350


def bits_of(number, many):
    """Its last bits, the lowest first."""
    return [(number >> k) % 2 for k in range(many)]


def number_of(bits):
    number = 0
    for bit in reversed(bits):
        number = number * 2 + bit
    return number


def place_numbers(place, many):
    """What a place's cells hold, which has that many numbers if it isn't empty."""
    if place is None:
        return [0] * (many + 1)
    return [1] + list(place)


def numbers_of(pipe):
    """What the cells hold, a number for each of the WIDTHS."""
    numbers = list(pipe.registers)
    numbers.append(pipe.fetching)
    numbers.extend(place_numbers(pipe.in_read, 2))
    numbers.extend(place_numbers(pipe.in_reckon, 4))
    numbers.extend(place_numbers(pipe.in_memory, 4))
    numbers.extend(place_numbers(pipe.in_put, 2))
    numbers.extend([pipe.may, pipe.origin, pipe.cause, pipe.halted])
    return numbers


def cells_of(pipe):
    bits = []
    for number, many in zip(numbers_of(pipe), WIDTHS):
        bits.extend(bits_of(number, many))
    return bits


def parted(cells):
    """The cells, or what stands for them, number by number."""
    parts = []
    at = 0
    for many in WIDTHS:
        parts.append(cells[at:at + many])
        at = at + many
    return parts


def packed(bits):
    """Numbers of 16 bits each, the last of what's left."""
    return [number_of(bits[at:at + 16]) for at in range(0, len(bits), 16)]
