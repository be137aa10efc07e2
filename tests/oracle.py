"""The document told a second time, by recursion and without regard to length, for tests to compare with."""

import sys

# 128 calls within one another, each within up to 32 nodes.
sys.setrecursionlimit(20000)

WORDS = 4294967296


class No(Exception):
    pass


class Stopped(Exception):
    pass


class Tape:
    def __init__(self, data):
        self.data = data
        self.at = 0

    def byte(self):
        if self.at >= len(self.data):
            raise No()
        self.at += 1
        return self.data[self.at - 1]

    def number(self):
        return int.from_bytes([self.byte() for _ in range(4)], "little")


# Programs

def program_tree(data):
    """The tree of a program, or None."""
    tape = Tape(data)
    try:
        tree = program_part(tape, 0, 32)
    except No:
        return None
    if tape.at != len(data) or len(data) > 1024 or functions_in(tree) > 64:
        return None
    return tree


def program_part(tape, binders, room):
    if room == 0:
        raise No()
    head = tape.byte()
    if head == 0:
        return (0, tape.number())
    if head == 1:
        k = tape.byte()
        if k >= binders:
            raise No()
        return (1, k)
    if head > 9:
        raise No()
    more = {2: [1], 3: [2], 4: [0, 0], 5: [0, 0], 6: [0, 0], 7: [0, 0], 8: [0, 0, 0], 9: [0, 1]}[head]
    return (head,) + tuple([program_part(tape, binders + bound, room - 1) for bound in more])


def functions_in(tree):
    if tree[0] < 2:
        return 0
    return (1 if tree[0] in (2, 3) else 0) + sum(functions_in(part) for part in tree[1:])


def free(tree):
    """The variables that are used and not bound, as they are known around the tree, in the order of first use."""
    if tree[0] == 0:
        return []
    if tree[0] == 1:
        return [tree[1]]
    found = []
    for place, part in enumerate(tree[1:]):
        bound = {2: 1, 3: 2, 9: place}.get(tree[0], 0)
        found += [k - bound for k in free(part) if k >= bound]
    return list(dict.fromkeys(found))


def compiled(tree):
    procedures = []
    main = expression_code(tree, [], 0, procedures)
    data = [len(procedures)] + main
    for procedure in procedures:
        data += procedure
    return data


def expression_code(tree, names, keeps, procedures):
    """names: of each variable, the nearest first, a way to write it when so many values are kept."""
    head = tree[0]
    if head == 0:
        return [0] + list(tree[1].to_bytes(4, "little"))
    if head == 1:
        return names[tree[1]](keeps)
    if head in (2, 3):
        return function_code(tree, names, keeps, procedures)
    data = [head] + expression_code(tree[1], names, keeps, procedures)
    if head == 9:
        inner = [lambda now: [10, now - keeps - 1]] + names
        return data + expression_code(tree[2], inner, keeps + 1, procedures)
    for part in tree[2:]:
        data += expression_code(part, names, keeps, procedures)
    return data


def function_code(tree, names, keeps, procedures):
    number = len(procedures)
    procedures.append(None)
    along = free(tree)
    own = [lambda now: [1, 0]] if tree[0] == 2 else [lambda now: [1, 0], lambda now: [3, 0]]
    outer = [(lambda j: lambda now: [2, j])(along.index(k)) if k in along else None for k in range(len(names))]
    procedures[number] = [len(along)] + expression_code(tree[1], own + outer, 0, procedures)
    data = [11, number, len(along)]
    for k in along:
        data += names[k](keeps)
    return data


# What has calls and cells

class Counts:
    def __init__(self):
        self.calls = 0
        self.allowed = 0
        self.cells = 0

    def call(self, f, inside):
        if isinstance(f, int):
            raise Stopped(2)
        if self.calls >= self.allowed:
            raise Stopped(3)
        if inside >= 128:
            raise Stopped(4)
        self.calls += 1

    def make(self, cells):
        if self.cells + cells > 8192:
            raise Stopped(5)
        self.cells += cells


def numbers_only(*given):
    for value in given:
        if not isinstance(value, int):
            raise Stopped(2)


def reckoned(head, a, b):
    numbers_only(a, b)
    if head == 7:
        return int((a + 2147483648) % WORDS < (b + 2147483648) % WORDS)
    return (a + b if head == 5 else a - b) % WORDS


def ends(counts, first, enter, allowed, numbers):
    """The ends of a thing worked out by first(), of which a function that comes out is called by enter."""
    seen = []
    work = first
    while True:
        counts.calls = 0
        counts.allowed = allowed
        try:
            value = work()
        except Stopped as stopped:
            return seen + [[stopped.args[0], 0, 0, 0]]
        if isinstance(value, int):
            return seen + [[0, value, counts.calls, counts.cells]]
        seen.append([1, 0, counts.calls, counts.cells])
        if not numbers:
            return seen
        x, allowed = numbers[:2]
        numbers = numbers[2:]
        work = (lambda f, a: lambda: enter(f, a, 0))(value, x)


# Programs worked out

def program_ends(tree, allowed, numbers):
    counts = Counts()

    def enter(f, a, inside):
        counts.call(f, inside)
        made, env = f
        return value_of(made[1], [a] + ([f] if made[0] == 3 else []) + env, inside + 1)

    def value_of(part, env, inside):
        head = part[0]
        if head == 0:
            return part[1]
        if head == 1:
            return env[part[1]]
        if head in (2, 3):
            counts.make(1 + len(free(part)))
            return (part, env)
        first = value_of(part[1], env, inside)
        if head == 8:
            numbers_only(first)
            return value_of(part[2] if first else part[3], env, inside)
        if head == 9:
            return value_of(part[2], [first] + env, inside)
        second = value_of(part[2], env, inside)
        if head == 4:
            return enter(first, second, inside)
        return reckoned(head, first, second)

    return ends(counts, lambda: value_of(tree, [], 0), enter, allowed, list(numbers))


# Code

def code_trees(data):
    """[(how many values, tree)] of main and each procedure, or None."""
    tape = Tape(data)
    try:
        return code_parts(tape, data)
    except No:
        return None


def code_parts(tape, data):
    count = tape.byte()
    trees = [(0, code_part(tape, None, 0, 64))]
    for _ in range(count):
        along = tape.byte()
        trees.append((along, code_part(tape, along, 0, 64)))
    wrong = [1 for along, _ in trees if along > 64]
    wrong += [1 for p, n in all_made(trees) if p >= count or trees[p + 1][0] != n]
    if wrong or count > 64 or tape.at != len(data) or len(data) > 8192:
        return None
    return trees


def code_name(tape, along, keeps):
    head, k = tape.byte(), tape.byte()
    allowed = {1: [0], 2: range(along or 0), 3: [0], 10: range(keeps)}.get(head, [])
    if k not in allowed or (along is None and head in (1, 3)):
        raise No()
    return (head, k)


def code_part(tape, along, keeps, room):
    """along is None in main."""
    if room == 0:
        raise No()
    head = tape.byte()
    if head == 0:
        return (0, tape.number())
    if head in (1, 2, 3, 10):
        tape.at -= 1
        return code_name(tape, along, keeps)
    if head == 11:
        p, n = tape.byte(), tape.byte()
        return (11, p, tuple([code_name(tape, along, keeps) for _ in range(n)]))
    if not 4 <= head <= 9:
        raise No()
    more = {8: [0, 0, 0], 9: [0, 1]}.get(head, [0, 0])
    return (head,) + tuple([code_part(tape, along, keeps + bound, room - 1) for bound in more])


def all_made(trees):
    found = []
    left = [tree for _, tree in trees]
    while left:
        tree = left.pop()
        if tree[0] == 11:
            found.append((tree[1], len(tree[2])))
        elif 4 <= tree[0] <= 9:
            left += tree[1:]
    return found


def written(trees):
    """Bytes of code once more."""
    data = [len(trees) - 1] + written_part(trees[0][1])
    for along, tree in trees[1:]:
        data += [along] + written_part(tree)
    return data


def written_part(tree):
    if tree[0] == 0:
        return [0] + list(tree[1].to_bytes(4, "little"))
    if tree[0] in (1, 2, 3, 10):
        return list(tree)
    if tree[0] == 11:
        return [11, tree[1], len(tree[2])] + [byte for name in tree[2] for byte in name]
    data = [tree[0]]
    for part in tree[1:]:
        data += written_part(part)
    return data


def code_ends(trees, allowed, numbers):
    counts = Counts()

    def enter(f, a, inside):
        counts.call(f, inside)
        return value_of(trees[f[0] + 1][1], (a, f), [], inside + 1)

    def named(name, running, keeps):
        head, k = name
        if head == 1:
            return running[0]
        if head == 2:
            return running[1][1][k]
        if head == 3:
            return running[1]
        return keeps[-1 - k]

    def value_of(part, running, keeps, inside):
        head = part[0]
        if head == 0:
            return part[1]
        if head in (1, 2, 3, 10):
            return named(part, running, keeps)
        if head == 11:
            counts.make(1 + len(part[2]))
            return (part[1], [named(name, running, keeps) for name in part[2]])
        first = value_of(part[1], running, keeps, inside)
        if head == 8:
            numbers_only(first)
            return value_of(part[2] if first else part[3], running, keeps, inside)
        if head == 9:
            return value_of(part[2], running, keeps + [first], inside)
        second = value_of(part[2], running, keeps, inside)
        if head == 4:
            return enter(first, second, inside)
        return reckoned(head, first, second)

    return ends(counts, lambda: value_of(trees[0][1], None, [], 0), enter, allowed, list(numbers))
