"""Programs and code by chance, the same ones each time."""

from tests import support as s

N = "n"
F = (N, N)
G = (N, F)
H = (F, N)
KINDS = [N, N, N, F, F, G, H]


class Chance:
    def __init__(self, seed):
        self.state = seed * 2654435761 % 4294967296 + 12345

    def below(self, bound):
        self.state = (self.state * 6364136223846793005 + 1442695040888963407) % 2 ** 64
        return (self.state >> 33) % bound

    def pick(self, things):
        return things[self.below(len(things))]


def program(chance):
    while True:
        data = part(chance, chance.pick([N, F, F, G, H]), [], 3 + chance.below(6))
        if len(data) <= 1024:
            return data


def part(chance, kind, known, room):
    """known: the kinds of the variables around, the nearest first."""
    if chance.below(25) == 0:
        kind = chance.pick(KINDS)
    if known and chance.below(3) == 0:
        fitting = [k for k, found in enumerate(known) if found == kind]
        if fitting:
            return s.var(chance.pick(fitting))
    if room <= 1:
        return leaf(chance, kind, known)
    if kind != N and chance.below(2) == 0:
        return function(chance, kind, known, room)
    way = chance.below(8 if kind == N else 4)
    if way == 0:
        bound = chance.pick(KINDS)
        return s.let(part(chance, bound, known, room - 1), part(chance, kind, [bound] + known, room - 1))
    if way == 1:
        return s.cond(*[part(chance, wanted, known, room - 1) for wanted in (N, kind, kind)])
    if way <= 3:
        return called(chance, kind, known, room - 1)
    if way == 4:
        return leaf(chance, kind, known)
    return [way] + part(chance, N, known, room - 1) + part(chance, N, known, room - 1)


def called(chance, kind, known, room):
    taking = [found for found in (F, G, H) if found[1] == kind]
    if not taking:
        return leaf(chance, kind, known)
    wanted = chance.pick(taking)
    return s.call(part(chance, wanted, known, room), part(chance, wanted[0], known, room))


def function(chance, kind, known, room):
    if kind == F and chance.below(3) == 0:
        return countdown(chance, known, room)
    if chance.below(2) == 0:
        return s.fun(part(chance, kind[1], [kind[0]] + known, room - 1))
    return s.rec(part(chance, kind[1], [kind[0], kind] + known, room - 1))


def countdown(chance, known, room):
    inner = [N, F] + known
    again = s.call(s.var(1), s.sub(s.var(0), s.num(1)))
    onward = s.add(again, part(chance, N, inner, room - 2))
    if chance.below(3) == 0:
        onward = s.add(again, onward)
    return s.rec(s.cond(s.less(s.var(0), s.num(1)), part(chance, N, inner, room - 2), onward))


def leaf(chance, kind, known):
    fitting = [k for k, found in enumerate(known) if found == kind]
    if fitting and chance.below(4):
        return s.var(chance.pick(fitting))
    if kind == N:
        return s.num(chance.pick([0, 0, 1, 2, 3, 7, 12, 255, 256, 2147483647, 2147483648, 4294967295]))
    return s.fun(leaf(chance, kind[1], [kind[0]] + known))


def altered(chance, data):
    """The bytes with a little of them changed, taken out or put in."""
    data = list(data)
    for _ in range(1 + chance.below(2)):
        at = chance.below(len(data) + 1)
        way = chance.below(4)
        if way == 0 and at < len(data):
            data[at] = chance.pick([chance.below(13), chance.below(13), chance.below(256)])
        elif way == 1 and at < len(data):
            data[at] = (data[at] + chance.pick([1, 255])) % 256
        elif way == 2:
            data = data[:at] + data[at + 1:]
        else:
            data.insert(at, chance.below(12))
    return data


# Code that need not be a program's: values taken twice, unused, in any order; procedures in any order.

class Place:
    """Where an expression stands: the procedures (kind, kinds of what it takes), the names there, what is kept."""

    def __init__(self, procedures, names, kept):
        self.procedures = procedures
        self.names = names
        self.kept = kept

    def keeping(self, kind):
        return Place(self.procedures, self.names, [kind] + self.kept)

    def known(self):
        return self.names + [(kind, s.kept(k)) for k, kind in enumerate(self.kept)]


def code(chance):
    while True:
        data = any_code(chance)
        if len(data) <= 8192:
            return data


def any_code(chance):
    procedures = []
    for _ in range(chance.below(7)):
        procedures.append((chance.pick([F, F, F, G, H]), [chance.pick(KINDS) for _ in range(chance.below(5))]))
    room = 2 + chance.below(6)
    bodies = []
    for kind, along in procedures:
        names = [(kind[0], s.ARG), (kind, s.SELF)] + [(found, s.taken(k)) for k, found in enumerate(along)]
        bodies.append((len(along), procedure(chance, kind, Place(procedures, names, []), room)))
    return s.code(expression(chance, chance.pick([N, F, F, G, H]), Place(procedures, [], []), room), *bodies)


def procedure(chance, kind, place, room):
    if kind != F or chance.below(2):
        return expression(chance, kind[1], place, room)
    again = s.call(s.SELF, s.sub(s.ARG, s.num(1)))
    onward = s.add(again, expression(chance, N, place, room - 2))
    if chance.below(3) == 0:
        onward = s.add(again, onward)
    return s.cond(s.less(s.ARG, s.num(1)), expression(chance, N, place, room - 2), onward)


def expression(chance, kind, place, room):
    if chance.below(25) == 0:
        kind = chance.pick(KINDS)
    if room <= 1:
        return expression_leaf(chance, kind, place)
    way = chance.below(9 if kind == N else 5)
    if way == 0:
        bound = chance.pick(KINDS)
        return s.let(
            expression(chance, bound, place, room - 1), expression(chance, kind, place.keeping(bound), room - 1))
    if way == 1:
        return s.cond(*[expression(chance, wanted, place, room - 1) for wanted in (N, kind, kind)])
    if way <= 3 and kind in (N, F):
        wanted = chance.pick([found for found in (F, G, H) if found[1] == kind])
        return s.call(
            expression(chance, wanted, place, room - 1), expression(chance, wanted[0], place, room - 1))
    if way <= 5:
        return expression_leaf(chance, kind, place)
    return [way - 1] + expression(chance, N, place, room - 1) + expression(chance, N, place, room - 1)


def expression_leaf(chance, kind, place):
    fitting = [name for found, name in place.known() if found == kind]
    if fitting and chance.below(3):
        return chance.pick(fitting)
    if kind == N or not place.procedures:
        return s.num(chance.pick([0, 0, 1, 2, 3, 7, 12, 255, 2147483647, 2147483648, 4294967295]))
    return made_leaf(chance, kind, place)


def made_leaf(chance, kind, place):
    of_this_kind = [p for p, found in enumerate(place.procedures) if found[0] == kind]
    p = chance.pick(of_this_kind or list(range(len(place.procedures))))
    known = place.known()
    if not known:
        return s.let(s.num(chance.below(9)), made_leaf(chance, kind, place.keeping(N)))
    names = []
    for wanted in place.procedures[p][1]:
        fitting = [name for found, name in known if found == wanted]
        names.append(chance.pick(fitting or [name for _, name in known]))
    return s.made(p, *names)
