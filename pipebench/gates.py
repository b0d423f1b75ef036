"""Gates, and what's made of a few of them.

A wire is known by its number. Rows of wires that carry a number have the lowest
bit first.
"""

# Two wires never change.
LOW = 0
HIGH = 1
FIXED = (0, 1)

# What comes out of a gate with two wires going in: bit 2 * first + second.
NEITHER_TABLE = 1
DIFFER_TABLE = 6
BOTH_TABLE = 8
EITHER_TABLE = 14


class Gates:
    """Gates, each behind those whose wires it takes in."""

    def __init__(self, taken_in):
        """That many wires come from outside."""
        self.made = []
        self.wires = len(FIXED) + taken_in

    def gate(self, table, one, other):
        """Make a gate; answer the wire that comes out."""
        self.made.append((table, one, other))
        self.wires = self.wires + 1
        return self.wires - 1

    def both(self, one, other):
        return self.gate(BOTH_TABLE, one, other)

    def either(self, one, other):
        return self.gate(EITHER_TABLE, one, other)

    def differ(self, one, other):
        return self.gate(DIFFER_TABLE, one, other)

    def opposite(self, one):
        return self.gate(NEITHER_TABLE, one, LOW)

    def but_not(self, one, other):
        return self.both(one, self.opposite(other))

    def all_of(self, wires):
        made = wires[0]
        for wire in wires[1:]:
            made = self.both(made, wire)
        return made

    def any_of(self, wires):
        made = wires[0]
        for wire in wires[1:]:
            made = self.either(made, wire)
        return made

    def masked(self, which, wires):
        """The wires where which is up, else all down."""
        return [self.both(which, wire) for wire in wires]

    def chosen(self, which, one, other):
        """one where which is down, other where it's up."""
        return self.differ(one, self.both(which, self.differ(one, other)))

    def row_chosen(self, which, ones, others):
        return [self.chosen(which, one, other) for one, other in zip(ones, others)]

    def picked(self, choices):
        """Of pairs (wire, row) the row whose wire is up; all down where none is. Two are never up at once."""
        made = self.masked(choices[0][0], choices[0][1])
        for which, row in choices[1:]:
            made = [self.either(one, other) for one, other in zip(made, self.masked(which, row))]
        return made

    def alike(self, ones, others):
        return self.opposite(self.any_of([self.differ(one, other) for one, other in zip(ones, others)]))

    def one_up(self, row):
        """A wire for each number that the row may carry, which is up where it carries that."""
        made = [HIGH]
        for wire in row:
            down = [self.but_not(one, wire) for one in made]
            made = down + [self.both(one, wire) for one in made]
        return made

    def one_more(self, row):
        made = []
        carry = HIGH
        for wire in row:
            made.append(self.differ(wire, carry))
            carry = self.both(wire, carry)
        return made

    def summed(self, ones, others, carry):
        """The sum's row, and behind it the carry."""
        made = []
        for one, other in zip(ones, others):
            half = self.differ(one, other)
            made.append(self.differ(half, carry))
            carry = self.either(self.both(one, other), self.both(half, carry))
        made.append(carry)
        return made

    def shifted_down(self, row, by, fill):
        """The row moved down by the number that by carries, fill coming in at its top."""
        many = 1
        for wire in by:
            row = self.row_chosen(wire, row, row[many:] + [fill] * many)
            many = many * 2
        return row


def constant(number, many):
    """A row of fixed wires that carries the number."""
    return [HIGH if (number >> k) % 2 == 1 else LOW for k in range(many)]


def run(gates, taken_in):
    """What each wire carries where the wires from outside carry the bits taken in."""
    carried = list(FIXED) + taken_in
    for table, one, other in gates.made:
        carried.append((table >> (2 * carried[one] + carried[other])) % 2)
    return carried
