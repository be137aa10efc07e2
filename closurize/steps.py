"""Nodes laid out as steps, so that their value can be worked out by a loop."""

from closurize.reading import CHOICE, KEEPING

# A step is a tuple: what is done, and a number for it. 4 to 7 (less) are the bytes of programs and of code,
# so that these can be laid down as they are.
PUSH = 0
LOOK_UP = 1
MAKE = 2
TAKE_ALONG = 3
CALL = 4
SUM = 5
DIFFERENCE = 6
UNLESS = 8
JUMP = 9
KEEP = 10
DROP = 11


class Block:
    """What a function called runs: its steps, how many binders it has, and the cells that making it takes."""

    def __init__(self, steps, own, cells):
        self.steps = steps
        self.own = own
        self.cells = cells


class Unfinished:
    """A node whose parts aren't all laid out; `jump` is the place of a step that waits for its target."""

    def __init__(self, node):
        self.node = node
        self.done = 0
        self.jump = 0


def laid_out(nodes, own_steps, bodies):
    """Of each of so many bodies its steps; `own_steps` has of each node those that aren't its parts'."""
    rows = [[] for body in range(bodies)]
    unfinished = []
    for node, own in zip(nodes, own_steps):
        rows[node.home].extend(own)
        if node.parts > 0:
            unfinished.append(Unfinished(node))
        else:
            finish_parts(unfinished, rows)
    return rows


def finish_parts(unfinished, rows):
    # One node's end may be the end of many that it stands in.
    ended = True
    while ended and unfinished:
        last = unfinished[-1]
        last.done = last.done + 1
        finish_part(last, rows[last.node.home])
        ended = last.done == last.node.parts
        if ended:
            unfinished.pop()


def finish_part(last, row):
    kind = last.node.kind
    if kind == CHOICE:
        finish_choice_part(last, row)
    elif kind == KEEPING:
        row.append((KEEP if last.done == 1 else DROP, 0))
    elif last.done == 2:
        row.append((kind, 0))


def finish_choice_part(last, row):
    here = len(row)
    if last.done == 1:
        row.append((UNLESS, 0))
    elif last.done == 2:
        row.append((JUMP, 0))
        row[last.jump] = (UNLESS, here + 1)
    else:
        row[last.jump] = (JUMP, here)
    last.jump = here
