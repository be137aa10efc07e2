"""A worker goes through steps by a loop, counts calls and cells, and tells faults."""

from closurize.reading import MAIN
from closurize.steps import CALL, DIFFERENCE, DROP, JUMP, KEEP, LOOK_UP, MAKE, PUSH, SUM, TAKE_ALONG, UNLESS

MOST_INSIDE = 128
MOST_CELLS = 8192
MODULUS = 4294967296
SIGN = 2147483648

NUMBER_OUT = 0
FUNCTION_OUT = 1
WRONG_KIND = 2
NO_CALL_LEFT = 3
TOO_FAR_INSIDE = 4
NO_CELL_LEFT = 5


class Fault(Exception):
    """Working out can't go on."""

    def __init__(self, fault):
        self.fault = fault


class Made:
    """A function made: its block, and the values that are known in it ahead of its own."""

    def __init__(self, block, known):
        self.block = block
        self.known = known


class Running:
    """A block's steps being taken, and the values known there."""

    def __init__(self, steps, known):
        self.steps = steps
        self.known = known
        self.place = 0


class Worker:
    """Works out the blocks' main one, then calls what came out; `out` is None when nothing is."""

    def __init__(self, blocks):
        self.blocks = blocks
        self.allowed = 0
        self.calls = 0
        self.cells = 0
        self.out = None

    def run_main(self, allowed):
        self.cells = 0
        return self.run_steps(self.blocks[MAIN].steps, [], allowed)

    def call_out(self, number, allowed):
        return self.run_steps([(CALL, 0)], [self.out, number], allowed)

    def run_steps(self, steps, stack, allowed):
        self.allowed = allowed
        self.calls = 0
        self.out = None
        try:
            self.out = self.work_out(steps, stack)
        except Fault as e:
            return e.fault
        return NUMBER_OUT if isinstance(self.out, int) else FUNCTION_OUT

    def work_out(self, steps, stack):
        running = Running(steps, [])
        callers = []
        while True:
            if self.go_on(running, stack):
                argument = stack.pop()
                called = stack.pop()
                self.count_call(called, len(callers))
                callers.append(running)
                running = Running(called.block.steps, known_inside(called, argument))
            elif callers:
                running = callers.pop()
            else:
                return stack.pop()

    def go_on(self, running, stack):
        """Takes steps up to a call, which is told by True, or to the end."""
        steps = running.steps
        known = running.known
        place = running.place
        while place < len(steps):
            step = steps[place]
            kind = step[0]
            value = step[1]
            place = place + 1
            if kind == LOOK_UP:
                stack.append(known[value])
            elif kind == PUSH:
                stack.append(value)
            elif kind == CALL:
                running.place = place
                return True
            elif kind == MAKE:
                # What is kept here goes on changing, but not what the function knows.
                stack.append(self.make(self.blocks[value], list(known)))
            elif kind == TAKE_ALONG:
                block = self.blocks[value]
                stack.append(self.make(block, taken_off(stack, block.cells - 1)))
            elif kind == KEEP:
                known.append(stack.pop())
            elif kind == DROP:
                known.pop()
            elif kind == JUMP:
                place = value
            elif kind == UNLESS:
                place = value if number_in(stack.pop()) == 0 else place
            else:
                second = stack.pop()
                stack.append(reckon(kind, stack.pop(), second))
        return False

    def count_call(self, called, inside):
        if isinstance(called, int):
            raise Fault(WRONG_KIND)
        if self.calls == self.allowed:
            raise Fault(NO_CALL_LEFT)
        if inside == MOST_INSIDE:
            raise Fault(TOO_FAR_INSIDE)
        self.calls = self.calls + 1

    def make(self, block, known):
        if self.cells + block.cells > MOST_CELLS:
            raise Fault(NO_CELL_LEFT)
        self.cells = self.cells + block.cells
        return Made(block, known)


def taken_off(stack, count):
    taken = stack[len(stack) - count:]
    for value in taken:
        stack.pop()
    return taken


def known_inside(called, argument):
    if called.block.own == 1:
        return called.known + [argument]
    return called.known + [called, argument]


def number_in(value):
    if not isinstance(value, int):
        raise Fault(WRONG_KIND)
    return value


def reckon(kind, first, second):
    if not isinstance(first, int) or not isinstance(second, int):
        raise Fault(WRONG_KIND)
    if kind == SUM:
        return (first + second) % MODULUS
    if kind == DIFFERENCE:
        return (first - second) % MODULUS
    # What is left is whether the first is less.
    return 1 if signed(first) < signed(second) else 0


def signed(number):
    return number - MODULUS if number >= SIGN else number
