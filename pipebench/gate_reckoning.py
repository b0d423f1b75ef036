"""Reckon's place of gates: what it makes, and which way is gone."""

from pipebench.gate_words import any_kind, writes_late_wire, writes_wire
from pipebench.gates import LOW


def is_difference(gates, word):
    """Whether the sum is to be x - y."""
    return gates.either(word.kinds[1], gates.both(word.kinds[0], word.fs[1]))


def total_of(gates, word, x, y):
    """x + y, x - y or x + i6, whichever the word wants, and the carry behind it."""
    with_number = any_kind(gates, word, (2, 5, 6, 10))
    minus = is_difference(gates, word)
    second = [gates.differ(minus, wire) for wire in gates.row_chosen(with_number, y, word.i6)]
    return gates.summed(x, second, minus)


def turned_round(row):
    return list(reversed(row))


def combined_row(gates, word, x, y, total):
    """What kind 0 makes."""
    fs = word.fs
    # One row of choosers shifts both ways: for shl the bits are turned round before and behind.
    source = gates.row_chosen(fs[5], x, turned_round(x))
    shifted = gates.shifted_down(source, y[0:4], gates.both(fs[7], x[15]))
    return gates.picked([
        (gates.either(fs[0], fs[1]), total[0:16]),
        (fs[2], [gates.both(one, other) for one, other in zip(x, y)]),
        (fs[3], [gates.either(one, other) for one, other in zip(x, y)]),
        (fs[4], [gates.differ(one, other) for one, other in zip(x, y)]),
        (fs[5], turned_round(shifted)),
        (gates.either(fs[6], fs[7]), shifted),
    ])


def compared_wire(gates, word, x, y, total):
    """What kind 1 makes: its lowest bit."""
    # A difference with a carry is one of which nothing had to be borrowed.
    less = gates.opposite(total[16])
    less_with_sign = gates.chosen(gates.differ(x[15], y[15]), less, x[15])
    return gates.any_of([
        gates.both(word.fs[0], less_with_sign),
        gates.both(word.fs[1], less),
        gates.both(word.fs[2], gates.alike(x, y)),
    ])


def v_of(gates, cells, total, following):
    word = cells.reckon
    x = cells.reckon_x
    y = cells.reckon_y
    return gates.picked([
        (word.kinds[0], combined_row(gates, word, x, y, total)),
        (word.kinds[1], [compared_wire(gates, word, x, y, total)] + [LOW] * 15),
        (any_kind(gates, word, (2, 5, 6)), total[0:16]),
        (word.kinds[3], word.i9),
        (word.kinds[4], x[0:8] + word.i8),
        (any_kind(gates, word, (9, 10)), following),
        (word.kinds[13], x),
    ])


def is_taken(gates, cells):
    """Whether it's a branch that the manual takes."""
    is_zero = gates.opposite(gates.any_of(cells.reckon_x))
    kinds = cells.reckon.kinds
    return gates.either(gates.both(kinds[7], is_zero), gates.but_not(kinds[8], is_zero))


class GateReckon:
    """What comes out of reckon's place."""

    def __init__(self, gates, cells):
        word = cells.reckon
        total = total_of(gates, word, cells.reckon_x, cells.reckon_y)
        following = gates.one_more(cells.reckon_address)
        self.v = v_of(gates, cells, total, following)
        self.d = word.d
        self.writes = gates.both(cells.reckon_full, writes_wire(gates, word))
        self.writes_late = gates.both(cells.reckon_full, writes_late_wire(gates, word))
        taken = is_taken(gates, cells)
        turned = gates.both(any_kind(gates, word, (7, 8)), word.is_back)
        jumps = word.kinds[10]
        self.another_way = gates.both(cells.reckon_full, gates.either(jumps, gates.differ(taken, turned)))
        branch_way = gates.row_chosen(taken, following, gates.summed(following, word.i9, LOW)[0:16])
        self.way = gates.row_chosen(jumps, branch_way, total[0:16])
