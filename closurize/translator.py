"""A program made code: each function a procedure that takes along just the values that it uses."""

from closurize.procedures import ARGUMENT, KEPT, MADE, RUNNING, TAKEN
from closurize.program import FUNCTION, SELF_FUNCTION, VARIABLE, level_of
from closurize.reading import MAIN, NUMBER


def takes_of(program):
    return [len(body.taken) for body in program.bodies[MAIN + 1:]]


def code_of(program):
    rows = [[] for body in program.bodies]
    # Code is in prefix form too, so each body's bytes come in the order of its nodes.
    for node in program.nodes:
        rows[node.home].extend(node_code(node, program.bodies))
    takes = takes_of(program)
    code = [len(takes)] + rows[MAIN]
    for count, row in zip(takes, rows[MAIN + 1:]):
        code.append(count)
        code.extend(row)
    return code


def node_code(node, bodies):
    if node.kind == NUMBER:
        return [NUMBER] + number_bytes(node.value)
    if node.kind == VARIABLE:
        return name_code(level_of(node), node, bodies)
    if node.kind == FUNCTION or node.kind == SELF_FUNCTION:
        return made_code(node, bodies)
    return [node.kind]


def number_bytes(number):
    return [(number >> shift) & 255 for shift in (0, 8, 16, 24)]


def made_code(node, bodies):
    taken = bodies[node.value].taken
    code = [MADE, node.value - 1, len(taken)]
    for level in taken:
        code.extend(name_code(level, node, bodies))
    return code


def name_code(level, node, bodies):
    body = bodies[node.home]
    inside = body.around + body.own
    if level >= inside:
        return [KEPT, node.around - 1 - level]
    # The parameter is the nearest of a function's own binders.
    if level == inside - 1:
        return [ARGUMENT, 0]
    if level >= body.around:
        return [RUNNING, 0]
    return [TAKEN, body.taken.index(level)]
