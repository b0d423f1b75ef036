"""The world: memory, and the sixteen addresses outside."""

MEMORY_SIZE = 65520
OUTSIDES = 16


class World:
    """A world, at first with all words of memory 0 and nothing outside."""

    def __init__(self):
        self.memory = [0] * MEMORY_SIZE
        self.waiting = [[] for k in range(OUTSIDES)]
        self.to_tell = []

    def read_at(self, address):
        if address < MEMORY_SIZE:
            return self.memory[address]
        row = self.waiting[address - MEMORY_SIZE]
        if len(row) == 0:
            return 0
        return row.pop(0)

    def fetched_at(self, address):
        if address < MEMORY_SIZE:
            return self.memory[address]
        return 0

    def put_at(self, address, word):
        if address < MEMORY_SIZE:
            self.memory[address] = word
        else:
            self.to_tell.append((address - MEMORY_SIZE, word))
