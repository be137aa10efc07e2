"""A program laid out as steps: each function knows all that was known where it stood, by the variables' levels."""

from closurize.program import FUNCTION, SELF_FUNCTION, VARIABLE, level_of
from closurize.reading import NUMBER
from closurize.steps import Block, LOOK_UP, MAKE, PUSH, laid_out


def program_blocks(program):
    own_steps = [node_steps(node) for node in program.nodes]
    rows = laid_out(program.nodes, own_steps, len(program.bodies))
    return [Block(row, body.own, 1 + len(body.taken)) for row, body in zip(rows, program.bodies)]


def node_steps(node):
    if node.kind == NUMBER:
        return [(PUSH, node.value)]
    if node.kind == VARIABLE:
        return [(LOOK_UP, level_of(node))]
    if node.kind == FUNCTION or node.kind == SELF_FUNCTION:
        return [(MAKE, node.value)]
    return []
