"""Programs: their bytes read and held to their bounds, and which variables each function takes along."""

from closurize.reading import BadBytes, MAIN, NUMBER, Node, PARTS, Reader, Spot

MOST_BYTES = 1024
MOST_DEEP = 32
MOST_FUNCTIONS = 64

VARIABLE = 1
FUNCTION = 2
SELF_FUNCTION = 3


class Body:
    """The main body, or a function's: the binders around it, its own ones, and the body in which it stands.

    A variable is known in all bodies by its level: how many binders stand further outward than its own.
    `taken` has the levels of the variables that the body uses and doesn't bind, as they first stand in it.
    """

    def __init__(self, around, own, home):
        self.around = around
        self.own = own
        self.home = home
        self.taken = []


class Program:
    """Nodes as their bytes stand, and bodies: the main one, then each function's."""

    def __init__(self, nodes, bodies):
        self.nodes = nodes
        self.bodies = bodies


def read_program(data):
    if len(data) > MOST_BYTES:
        raise BadBytes()
    reader = Reader(data, MOST_DEEP)
    bodies = [Body(0, 0, MAIN)]
    reader.waiting.append(Spot(0, 1, MAIN))
    while reader.waiting:
        read_node(reader, bodies)
    reader.must_be_at_end()
    note_uses(reader.nodes, bodies)
    return Program(reader.nodes, bodies)


def read_node(reader, bodies):
    spot = reader.next_spot()
    kind = reader.take()
    value = 0
    parts = 0
    if kind == NUMBER:
        value = reader.number()
    elif kind == VARIABLE:
        value = read_variable(reader, spot)
    elif kind == FUNCTION or kind == SELF_FUNCTION:
        value = begin_function(reader, kind, spot, bodies)
        parts = 1
    elif kind in PARTS:
        reader.wait_for_parts(kind, spot)
        parts = PARTS[kind]
    else:
        raise BadBytes()
    reader.nodes.append(Node(kind, value, parts, spot))


def read_variable(reader, spot):
    outward = reader.take()
    if outward >= spot.around:
        raise BadBytes()
    return outward


def begin_function(reader, kind, spot, bodies):
    home = len(bodies)
    if home > MOST_FUNCTIONS:
        raise BadBytes()
    own = 1 if kind == FUNCTION else 2
    bodies.append(Body(spot.around, own, spot.home))
    reader.waiting.append(Spot(spot.around + own, spot.depth + 1, home))
    return home


def level_of(variable):
    return variable.around - 1 - variable.value


def note_uses(nodes, bodies):
    for node in nodes:
        if node.kind == VARIABLE:
            note_use(level_of(node), node.home, bodies)


def note_use(level, home, bodies):
    # A function within another gets its values from it, so that one must take them along too.
    while level < bodies[home].around:
        body = bodies[home]
        if level not in body.taken:
            body.taken.append(level)
        home = body.home
