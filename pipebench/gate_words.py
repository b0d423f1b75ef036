"""A word parted by gates: what it is and what it asks for."""


def wrong_ways(gates, word, ops):
    """Wires of which one is up where the word is no instruction."""
    low = word[0]
    middle = word[1]
    high = word[2]
    behind_f = gates.any_of(word[3:9])
    behind_op = gates.any_of(word[0:12])
    return [
        gates.both(ops[1], gates.either(high, gates.both(middle, low))),
        gates.both(ops[4], word[8]),
        gates.both(ops[11], gates.either(behind_f, gates.any_of(word[9:12]))),
        gates.both(gates.either(ops[12], ops[14]), behind_op),
        gates.both(ops[13], gates.either(behind_f, gates.both(high, gates.either(middle, low)))),
        ops[15],
    ]


class GateWord:
    """What the wires of a word tell."""

    def __init__(self, gates, word):
        ops = gates.one_up(word[12:16])
        self.instruction = gates.opposite(gates.any_of(wrong_ways(gates, word, ops)))
        # Of what's no instruction none is up.
        self.kinds = gates.masked(self.instruction, ops)
        self.fs = gates.one_up(word[0:3])
        self.d = word[9:12]
        self.a = word[6:9]
        self.b = word[3:6]
        # With a sign, so the highest bit is that of all above.
        self.i6 = word[0:6] + [word[5]] * 10
        self.i9 = word[0:9] + [word[8]] * 7
        self.i8 = word[0:8]
        self.is_back = word[8]


def any_kind(gates, word, kinds):
    """Whether it's an instruction of one of those kinds."""
    return gates.any_of([word.kinds[kind] for kind in kinds])


def own_written(gates, word):
    """Whether it's of kind 13 and writes."""
    return gates.both(word.kinds[13], gates.any_of([word.fs[0], word.fs[1], word.fs[4]]))


def writes_late_wire(gates, word):
    return gates.either(word.kinds[5], own_written(gates, word))


def writes_wire(gates, word):
    return gates.either(any_kind(gates, word, (0, 1, 2, 3, 4, 5, 9, 10)), own_written(gates, word))


def turns_wire(gates, word):
    return gates.either(word.kinds[9], gates.both(any_kind(gates, word, (7, 8)), word.is_back))


def first_read(gates, word):
    """Whether it reads a first register, and which one."""
    by_a = any_kind(gates, word, (0, 1, 2, 5, 6, 10))
    own_read = gates.both(word.kinds[13], gates.either(word.fs[2], word.fs[3]))
    by_d = gates.either(any_kind(gates, word, (4, 7, 8)), own_read)
    return (gates.either(by_a, by_d), gates.row_chosen(by_d, word.a, word.d))


def second_read(gates, word):
    """Whether it reads a second register, and which one."""
    by_b = any_kind(gates, word, (0, 1))
    by_d = word.kinds[6]
    return (gates.either(by_b, by_d), gates.row_chosen(by_d, word.b, word.d))
