"""The world: memory, and the sixteen addresses outside."""

MEMORY_SIZE = 65520
OUTSIDES = 16


class World:
    """A world, at first with all words of memory 0 and nothing outside."""

    def __init__(self):
        self.memory = [0] * MEMORY_SIZE
        self.waiting = [[] for k in range(OUTSIDES)]
        self.to_tell = []

    def copied(self):
        other = World()
        other.memory = list(self.memory)
        other.waiting = [list(row) for row in self.waiting]
        other.to_tell = list(self.to_tell)
        return other

    def looked_at(self, address):
        """What would be read there; what waits goes on waiting."""
        if address < MEMORY_SIZE:
            return self.memory[address]
        row = self.waiting[address - MEMORY_SIZE]
        return row[0] if len(row) > 0 else 0

    def read_at(self, address):
        word = self.looked_at(address)
        if address >= MEMORY_SIZE and len(self.waiting[address - MEMORY_SIZE]) > 0:
            self.waiting[address - MEMORY_SIZE].pop(0)
        return word

    def fetched_at(self, address):
        if address < MEMORY_SIZE:
            return self.memory[address]
        return 0

    def put_at(self, address, word):
        if address < MEMORY_SIZE:
            self.memory[address] = word
        else:
            self.to_tell.append((address - MEMORY_SIZE, word))


def worlds_alike(one, other):
    return one.memory == other.memory and one.waiting == other.waiting and one.to_tell == other.to_tell
