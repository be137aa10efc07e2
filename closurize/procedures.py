"""Code: its bytes read and held to their bounds."""

from closurize.reading import BadBytes, MAIN, NUMBER, Node, PARTS, Reader, Spot

MOST_BYTES = 8192
MOST_DEEP = 64
MOST_PROCEDURES = 64
MOST_VALUES = 64

ARGUMENT = 1
TAKEN = 2
RUNNING = 3
KEPT = 10
MADE = 11


class Code:
    """Nodes as their bytes stand, and how many values each body takes along: main, then each procedure."""

    def __init__(self, nodes, takes):
        self.nodes = nodes
        self.takes = takes


def read_code(data):
    if len(data) > MOST_BYTES:
        raise BadBytes()
    reader = Reader(data, MOST_DEEP)
    procedures = take_at_most(reader, MOST_PROCEDURES)
    takes = [0]
    read_expression(reader, MAIN, takes)
    for procedure in range(procedures):
        takes.append(take_at_most(reader, MOST_VALUES))
        read_expression(reader, procedure + 1, takes)
    reader.must_be_at_end()
    hold_made(reader.nodes, takes)
    return Code(reader.nodes, takes)


def take_at_most(reader, most):
    count = reader.take()
    if count > most:
        raise BadBytes()
    return count


def read_expression(reader, home, takes):
    reader.waiting.append(Spot(0, 1, home))
    while reader.waiting:
        read_node(reader, takes)


def read_node(reader, takes):
    spot = reader.next_spot()
    kind = reader.take()
    if kind in PARTS:
        reader.wait_for_parts(kind, spot)
        reader.nodes.append(Node(kind, 0, PARTS[kind], spot))
    elif kind == NUMBER:
        reader.nodes.append(Node(kind, reader.number(), 0, spot))
    elif kind == MADE:
        reader.nodes.append(read_made(reader, spot, takes))
    else:
        reader.nodes.append(Node(kind, read_name(reader, kind, spot, takes), 0, spot))


def read_made(reader, spot, takes):
    node = Node(MADE, reader.take() + 1, 0, spot)
    for name in range(reader.take()):
        kind = reader.take()
        node.names.append((kind, read_name(reader, kind, spot, takes)))
    return node


def read_name(reader, kind, spot, takes):
    place = reader.take()
    if place >= places_of(kind, spot, takes):
        raise BadBytes()
    return place


def places_of(kind, spot, takes):
    if kind == TAKEN:
        return takes[spot.home]
    if kind == KEPT:
        return spot.around
    if (kind == ARGUMENT or kind == RUNNING) and spot.home > MAIN:
        return 1
    return 0


def hold_made(nodes, takes):
    # A procedure may be made a function ahead of its own bytes, so this waits until all are read.
    for node in nodes:
        if node.kind == MADE:
            hold_one_made(node, takes)


def hold_one_made(node, takes):
    if node.value >= len(takes):
        raise BadBytes()
    if len(node.names) != takes[node.value]:
        raise BadBytes()
