"""Programs and code written by their parts, and calls asked one at a time."""

from closurize.machine import answers

REFUSED = [-1]


def num(value):
    return [0] + list(value.to_bytes(4, "little"))


def var(k):
    return [1, k]


def fun(body):
    return [2] + body


def rec(body):
    return [3] + body


def call(f, a):
    return [4] + f + a


def add(a, b):
    return [5] + a + b


def sub(a, b):
    return [6] + a + b


def less(a, b):
    return [7] + a + b


def cond(a, b, c):
    return [8] + a + b + c


def let(a, b):
    return [9] + a + b


ARG = [1, 0]
SELF = [3, 0]


def taken(k):
    return [2, k]


def kept(k):
    return [10, k]


def made(p, *names):
    return [11, p, len(names)] + [byte for name in names for byte in name]


def code(main, *procedures):
    """Each procedure: (how many values it takes along, its expression)."""
    data = [len(procedures)] + main
    for count, expression in procedures:
        data += [count] + expression
    return data


def wrapped(times, head, inner):
    return head * times + inner


def many(joined, parts):
    """All the parts within as shallow a tree as can be of a node of two parts."""
    if len(parts) == 1:
        return parts[0]
    half = len(parts) // 2
    return [joined] + many(joined, parts[:half]) + many(joined, parts[half:])


def row(numbers):
    return [len(numbers)] + numbers


def single(calls):
    """The answer to a list of one call."""
    told = answers(calls)
    assert told[0] == len(told) - 1, told
    return told[1:]


def check(data):
    return single([1] + row(data))


def compiled(data):
    return single([2] + row(data))


def takes_of(data):
    return single([3] + row(data))


def mean(allowed, data, numbers=()):
    return single([4, allowed] + row(data) + row(list(numbers)))


def load(data):
    return single([5] + row(data))


def procs_after_load(data):
    told = answers([5] + row(data) + [6])
    assert told[0] == 1 and told[2] == 1 and len(told) == 4, told
    return [told[1], told[3]]


# Calls on a machine, one each; `ask` takes any number of them.

PROCS = [6]
RESULT = [10]
CALLS = [11]
CELLS = [12]
LOOKS = RESULT + CALLS + CELLS
NOTHING_OUT = [[-1], [-1], [-1]]


def loading(data):
    return [5] + row(data)


def takes(p):
    return [7, p]


def run(allowed=2000):
    return [8, allowed]


def apply(x, allowed=2000):
    return [9, x, allowed]


def each(told):
    """The answers in a list: one list for each call."""
    found = []
    place = 0
    while place < len(told):
        end = place + 1 + told[place]
        assert told[place] > 0 and end <= len(told), told
        found.append(told[place + 1:end])
        place = end
    return found


def ask(*calls):
    return each(answers([number for asked in calls for number in asked]))


def after_load(data, *calls):
    told = ask(loading(data), *calls)
    assert told[0] == [0], told
    return told[1:]


def number_out(value, calls=0, cells=0):
    """What run or apply, result, calls and cells tell when a number came out."""
    return [[0], [0, value], [calls], [cells]]


def function_out(calls, cells):
    return [[1], [1], [calls], [cells]]


def fault_told(fault):
    return [[fault], [-1], [-1], [-1]]
