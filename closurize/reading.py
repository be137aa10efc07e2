"""What reading a program and reading code have in common: bytes in prefix form."""

# The body that no function has; the body of function or procedure p is p + 1.
MAIN = 0

# These bytes mean the same in programs and in code; PARTS has how many parts stand behind each.
NUMBER = 0
CHOICE = 8
KEEPING = 9
PARTS = {4: 2, 5: 2, 6: 2, 7: 2, 8: 3, 9: 2}


class BadBytes(Exception):
    """The bytes are not the program or the code that they should be."""


class Spot:
    """Where a node stands: how many binders are around, how deep it is, and in which body."""

    def __init__(self, around, depth, home):
        self.around = around
        self.depth = depth
        self.home = home


class Node:
    """What one byte and its own numbers say; its parts are the nodes behind it."""

    def __init__(self, kind, value, parts, spot):
        self.kind = kind
        self.value = value
        self.parts = parts
        self.around = spot.around
        self.home = spot.home
        self.names = []


class Reader:
    """Goes through bytes by a loop: `waiting` has the spots that are still to be filled, the next one last."""

    def __init__(self, data, deepest):
        self.data = data
        self.deepest = deepest
        self.place = 0
        self.nodes = []
        self.waiting = []

    def take(self):
        if self.place == len(self.data):
            raise BadBytes()
        byte = self.data[self.place]
        self.place = self.place + 1
        return byte

    def number(self):
        value = 0
        for shift in (0, 8, 16, 24):
            value = value + (self.take() << shift)
        return value

    def next_spot(self):
        spot = self.waiting.pop()
        if spot.depth > self.deepest:
            raise BadBytes()
        return spot

    def wait_for_parts(self, kind, spot):
        depth = spot.depth + 1
        # Only the last part of 9 has its binder.
        last = spot.around + 1 if kind == KEEPING else spot.around
        # The last part is put down first, so that the first one is taken up first.
        self.waiting.append(Spot(last, depth, spot.home))
        for earlier in range(PARTS[kind] - 1):
            self.waiting.append(Spot(spot.around, depth, spot.home))

    def must_be_at_end(self):
        if self.place < len(self.data):
            raise BadBytes()
