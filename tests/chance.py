"""Programs by chance, the same ones each time."""

from tests import support as s

N = "n"
F = (N, N)
G = (N, F)
H = (F, N)
KINDS = [N, N, N, F, F, G, H]


class Chance:
    def __init__(self, seed):
        self.state = seed * 2654435761 % 4294967296 + 12345

    def below(self, bound):
        self.state = (self.state * 6364136223846793005 + 1442695040888963407) % 2 ** 64
        return (self.state >> 33) % bound

    def pick(self, things):
        return things[self.below(len(things))]


def program(chance):
    while True:
        data = part(chance, chance.pick([N, F, F, G, H]), [], 3 + chance.below(6))
        if len(data) <= 1024:
            return data


def part(chance, kind, known, room):
    """known: the kinds of the variables around, the nearest first."""
    if chance.below(25) == 0:
        kind = chance.pick(KINDS)
    if known and chance.below(3) == 0:
        fitting = [k for k, found in enumerate(known) if found == kind]
        if fitting:
            return s.var(chance.pick(fitting))
    if room <= 1:
        return leaf(chance, kind, known)
    if kind != N and chance.below(2) == 0:
        return function(chance, kind, known, room)
    way = chance.below(8 if kind == N else 4)
    if way == 0:
        bound = chance.pick(KINDS)
        return s.let(part(chance, bound, known, room - 1), part(chance, kind, [bound] + known, room - 1))
    if way == 1:
        return s.cond(*[part(chance, wanted, known, room - 1) for wanted in (N, kind, kind)])
    if way <= 3:
        return called(chance, kind, known, room - 1)
    if way == 4:
        return leaf(chance, kind, known)
    return [way] + part(chance, N, known, room - 1) + part(chance, N, known, room - 1)


def called(chance, kind, known, room):
    taking = [found for found in (F, G, H) if found[1] == kind]
    if not taking:
        return leaf(chance, kind, known)
    wanted = chance.pick(taking)
    return s.call(part(chance, wanted, known, room), part(chance, wanted[0], known, room))


def function(chance, kind, known, room):
    if kind == F and chance.below(3) == 0:
        return countdown(chance, known, room)
    if chance.below(2) == 0:
        return s.fun(part(chance, kind[1], [kind[0]] + known, room - 1))
    return s.rec(part(chance, kind[1], [kind[0], kind] + known, room - 1))


def countdown(chance, known, room):
    inner = [N, F] + known
    again = s.call(s.var(1), s.sub(s.var(0), s.num(1)))
    onward = s.add(again, part(chance, N, inner, room - 2))
    if chance.below(3) == 0:
        onward = s.add(again, onward)
    return s.rec(s.cond(s.less(s.var(0), s.num(1)), part(chance, N, inner, room - 2), onward))


def leaf(chance, kind, known):
    fitting = [k for k, found in enumerate(known) if found == kind]
    if fitting and chance.below(4):
        return s.var(chance.pick(fitting))
    if kind == N:
        return s.num(chance.pick([0, 0, 1, 2, 3, 7, 12, 255, 256, 2147483647, 2147483648, 4294967295]))
    return s.fun(leaf(chance, kind[1], [kind[0]] + known))


def altered(chance, data):
    """The bytes with a little of them changed, taken out or put in."""
    data = list(data)
    for _ in range(1 + chance.below(2)):
        at = chance.below(len(data) + 1)
        way = chance.below(4)
        if way == 0 and at < len(data):
            data[at] = chance.pick([chance.below(13), chance.below(13), chance.below(256)])
        elif way == 1 and at < len(data):
            data[at] = (data[at] + chance.pick([1, 255])) % 256
        elif way == 2:
            data = data[:at] + data[at + 1:]
        else:
            data.insert(at, chance.below(12))
    return data
