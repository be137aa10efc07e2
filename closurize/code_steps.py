"""Code laid out as steps.

In a procedure these are known, in this order: the values that it took along, the running function, the argument,
and what is kept. In main there is only what is kept.
"""

from closurize.procedures import ARGUMENT, MADE, RUNNING, TAKEN
from closurize.reading import MAIN, NUMBER, PARTS
from closurize.steps import Block, LOOK_UP, PUSH, TAKE_ALONG, laid_out

# The running function and the argument.
OWN = 2


def code_blocks(code):
    own_steps = [node_steps(node, code.takes[node.home]) for node in code.nodes]
    rows = laid_out(code.nodes, own_steps, len(code.takes))
    return [Block(row, OWN, 1 + count) for row, count in zip(rows, code.takes)]


def node_steps(node, count):
    if node.kind == NUMBER:
        return [(PUSH, node.value)]
    if node.kind == MADE:
        named = [(LOOK_UP, place_of(name[0], name[1], node, count)) for name in node.names]
        return named + [(TAKE_ALONG, node.value)]
    if node.kind in PARTS:
        return []
    return [(LOOK_UP, place_of(node.kind, node.value, node, count))]


def place_of(kind, number, node, count):
    """The place of a name among what is known where the node stands, in a body that takes along so many values."""
    if kind == TAKEN:
        return number
    if kind == RUNNING:
        return count
    if kind == ARGUMENT:
        return count + 1
    first_kept = 0 if node.home == MAIN else count + OWN
    return first_kept + node.around - 1 - number
