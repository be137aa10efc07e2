"""A machine that has code, and the calls on it, one behind another in a list of whole numbers."""

from closurize.meaning import ends_of
from closurize.procedures import read_code
from closurize.program import read_program
from closurize.reading import BadBytes
from closurize.translator import code_of, takes_of

CHECK = 1
COMPILE = 2
TAKES_OF = 3
MEAN = 4
LOAD = 5
PROCS = 6


class NoCode(Exception):
    """The machine has no code that could be asked."""


class NoSuchCall(Exception):
    """A call's number is none that there is."""


class Line:
    """The list of calls, gone through from its beginning and left as it is."""

    def __init__(self, numbers):
        self.numbers = numbers
        self.place = 0

    def ended(self):
        return self.place == len(self.numbers)

    def take(self):
        number = self.numbers[self.place]
        self.place = self.place + 1
        return number

    def take_row(self):
        count = self.take()
        begin = self.place
        self.place = begin + count
        return self.numbers[begin:self.place]


class Machine:
    """The code that was loaded last, or None."""

    def __init__(self):
        self.code = None

    def load(self, data):
        self.code = read_code(data)
        return [0]

    def procs(self):
        if self.code is None:
            raise NoCode()
        return [len(self.code.takes) - 1]


def answers(calls):
    line = Line(calls)
    machine = Machine()
    told = []
    while not line.ended():
        answer = answer_or_refuse(machine, line)
        told.append(len(answer))
        told.extend(answer)
    return told


def answer_or_refuse(machine, line):
    try:
        return answer_call(machine, line)
    except BadBytes:
        return [-1]
    except NoCode:
        return [-1]


def answer_call(machine, line):
    # All of a call is taken from the line before it is looked at: a refused call is behind us too.
    call = line.take()
    if call == CHECK:
        return check(line.take_row())
    if call == COMPILE:
        return compiled(line.take_row())
    if call == TAKES_OF:
        return taken_along(line.take_row())
    if call == MEAN:
        allowed = line.take()
        data = line.take_row()
        return meant(allowed, data, line.take_row())
    if call == LOAD:
        return machine.load(line.take_row())
    if call == PROCS:
        return machine.procs()
    raise NoSuchCall()


def check(data):
    try:
        read_program(data)
    except BadBytes:
        return [0]
    return [1]


def compiled(data):
    code = code_of(read_program(data))
    return [len(code)] + code


def taken_along(data):
    takes = takes_of(read_program(data))
    return [len(takes)] + takes


def meant(allowed, data, numbers):
    ends = ends_of(read_program(data), allowed, numbers)
    told = [len(ends)]
    for end in ends:
        told.extend(end)
    return told
