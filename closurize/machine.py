"""A machine that has code and runs it, and the calls on it, one behind another in a list of whole numbers."""

from closurize.code_steps import code_blocks
from closurize.meaning import ends_of
from closurize.procedures import read_code
from closurize.program import read_program
from closurize.reading import BadBytes
from closurize.translator import code_of, takes_of
from closurize.worker import FUNCTION_OUT, NUMBER_OUT, Worker

CHECK = 1
COMPILE = 2
TAKES_OF = 3
MEAN = 4
LOAD = 5
PROCS = 6
TAKES = 7
RUN = 8
APPLY = 9
RESULT = 10
CALLS = 11
CELLS = 12


class NoCode(Exception):
    """The machine has no code that could be asked."""


class NoSuchProcedure(Exception):
    """The machine's code has no procedure of this number."""


class NothingOut(Exception):
    """Nothing was run, or a fault ended what ran last."""


class NoFunctionOut(Exception):
    """What is out can't be called."""


class NoSuchCall(Exception):
    """A call's number is none that there is."""


class Line:
    """The list of calls, gone through from its beginning and left as it is."""

    def __init__(self, numbers):
        self.numbers = numbers
        self.place = 0

    def ended(self):
        return self.place == len(self.numbers)

    def take(self):
        number = self.numbers[self.place]
        self.place = self.place + 1
        return number

    def take_row(self):
        count = self.take()
        begin = self.place
        self.place = begin + count
        return self.numbers[begin:self.place]


class Machine:
    """The code that was loaded last and what works it out, or None."""

    def __init__(self):
        self.code = None
        self.worker = None

    def load(self, data):
        code = read_code(data)
        self.code = code
        self.worker = Worker(code_blocks(code))
        return [0]

    def must_have_code(self):
        if self.code is None:
            raise NoCode()

    def must_have_out(self):
        self.must_have_code()
        if self.worker.out is None:
            raise NothingOut()

    def procs(self):
        self.must_have_code()
        return [len(self.code.takes) - 1]

    def takes_along(self, procedure):
        self.must_have_code()
        if procedure + 1 >= len(self.code.takes):
            raise NoSuchProcedure()
        return [self.code.takes[procedure + 1]]

    def run(self, allowed):
        self.must_have_code()
        return [self.worker.run_main(allowed)]

    def apply(self, number, allowed):
        self.must_have_out()
        if isinstance(self.worker.out, int):
            raise NoFunctionOut()
        return [self.worker.call_out(number, allowed)]

    def result(self):
        self.must_have_out()
        if isinstance(self.worker.out, int):
            return [NUMBER_OUT, self.worker.out]
        return [FUNCTION_OUT]

    def calls_made(self):
        self.must_have_out()
        return [self.worker.calls]

    def cells_taken(self):
        self.must_have_out()
        return [self.worker.cells]


def answers(calls):
    line = Line(calls)
    machine = Machine()
    told = []
    while not line.ended():
        answer = answer_or_refuse(machine, line)
        told.append(len(answer))
        told.extend(answer)
    return told


def answer_or_refuse(machine, line):
    try:
        return answer_call(machine, line)
    except (BadBytes, NoCode, NoSuchProcedure, NothingOut, NoFunctionOut):
        return [-1]


def answer_call(machine, line):
    # All of a call is taken from the line before it is looked at: a refused call is behind us too.
    call = line.take()
    if call == CHECK:
        return check(line.take_row())
    if call == COMPILE:
        return compiled(line.take_row())
    if call == TAKES_OF:
        return taken_along(line.take_row())
    if call == MEAN:
        allowed = line.take()
        data = line.take_row()
        return meant(allowed, data, line.take_row())
    return answer_machine_call(machine, call, line)


def answer_machine_call(machine, call, line):
    if call == LOAD:
        return machine.load(line.take_row())
    if call == PROCS:
        return machine.procs()
    if call == TAKES:
        return machine.takes_along(line.take())
    if call == RUN:
        return machine.run(line.take())
    if call == APPLY:
        number = line.take()
        return machine.apply(number, line.take())
    if call == RESULT:
        return machine.result()
    if call == CALLS:
        return machine.calls_made()
    if call == CELLS:
        return machine.cells_taken()
    raise NoSuchCall()


def check(data):
    try:
        read_program(data)
    except BadBytes:
        return [0]
    return [1]


def compiled(data):
    code = code_of(read_program(data))
    return [len(code)] + code


def taken_along(data):
    takes = takes_of(read_program(data))
    return [len(takes)] + takes


def meant(allowed, data, numbers):
    ends = ends_of(read_program(data), allowed, numbers)
    told = [len(ends)]
    for end in ends:
        told.extend(end)
    return told
