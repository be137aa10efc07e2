"""The promises 1 to 5, on programs and code by chance, held against the document told again in tests/oracle.py."""

import unittest

from closurize.machine import answers
from closurize.procedures import read_code
from tests import oracle
from tests.chance import Chance, altered, code, program
from tests.support import (
    LOOKS, PROCS, REFUSED, after_load, apply, ask, check, compiled, load, loading, mean, procs_after_load, row, run,
    takes, takes_of)

NUMBERS = [0, 1, 2, 3, 7, 9, 127, 128, 2147483648, 4294967295]
ALLOWED = [0, 1, 2, 5, 100, 2000, 2000, 2000]


def programs(count, first):
    """Programs with their trees, and the chance that is to be used further on."""
    for seed in range(first, first + count):
        chance = Chance(seed)
        data = program(chance)
        tree = oracle.program_tree(data)
        if tree is not None:
            yield data, tree, chance


def numbers_to_call_with(chance):
    numbers = []
    for _ in range(chance.below(9)):
        numbers += [chance.pick(NUMBERS), chance.pick(ALLOWED)]
    return numbers


def flat(ends):
    return [len(ends)] + sum(ends, [])


def codes(count, first):
    """Code with its trees, by chance and a little altered, and the chance that is to be used further on."""
    for seed in range(first, first + count):
        chance = Chance(seed)
        data = code(chance)
        if chance.below(3) == 0:
            other = altered(chance, data)
            data = data if oracle.code_trees(other) is None else other
        yield data, oracle.code_trees(data), chance


def told_of(ends, asked):
    """What a machine tells of these ends: of a run and so many applies, each with result, calls and cells."""
    told = []
    for end in ends:
        told += [[end[0]]]
        told += [end[:2] if end[0] == 0 else [1], [end[2]], [end[3]]] if end[0] < 2 else [[-1]] * 3
    looks = told[-3:]
    for _ in range(asked - len(ends)):
        # Nothing that can be called is out any more: it's refused, and changes nothing.
        told += [[-1]] + looks
    return told


def machine_told(data, allowed, numbers):
    calls = [run(allowed), LOOKS]
    for place in range(0, len(numbers), 2):
        calls += [apply(numbers[place], numbers[place + 1]), LOOKS]
    return after_load(data, *calls)


def ends_in(told):
    """The ends that mean tells, by themselves."""
    return [told[place:place + 4] for place in range(1, len(told), 4)]


def code_written(held):
    """Bytes of what load holds, once more."""
    data = [len(held.takes) - 1]
    home = 0
    for node in held.nodes:
        if node.home > home:
            home = node.home
            data.append(held.takes[home])
        data.append(node.kind)
        if node.kind == 0:
            data += node.value.to_bytes(4, "little")
        elif node.kind == 11:
            data += [node.value - 1, len(node.names)]
            for name in node.names:
                data += name
        elif node.kind in (1, 2, 3, 10):
            data.append(node.value)
    return data


class Promises(unittest.TestCase):
    def test_1_a_program_has_one_code_and_it_is_code(self):
        for data, tree, _ in programs(600, 0):
            told = compiled(data)
            self.assertEqual(told[1:], oracle.compiled(tree), data)
            self.assertEqual(told[0], len(told) - 1)
            trees = oracle.code_trees(told[1:])
            self.assertIsNotNone(trees)
            self.assertEqual(procs_after_load(told[1:]), [0, len(trees) - 1])

    def test_1_code_does_the_same_as_the_program(self):
        seen = {}
        for data, tree, chance in programs(1500, 1000):
            allowed = chance.pick(ALLOWED)
            numbers = numbers_to_call_with(chance)
            told = mean(allowed, data, numbers)
            self.assertEqual(told, flat(oracle.program_ends(tree, allowed, numbers)), data)
            trees = oracle.code_trees(compiled(data)[1:])
            self.assertEqual(told, flat(oracle.code_ends(trees, allowed, numbers)), data)
            for end in told[1::4]:
                seen[end] = seen.get(end, 0) + 1
        # Fault 5 has its own tests: it takes more than chance brings.
        self.assertTrue(all(seen.get(end, 0) > 10 for end in range(5)), seen)

    def test_1_run_and_apply_tell_the_same_of_code_as_mean_of_the_program(self):
        seen = {}
        for data, _, chance in programs(1500, 10000):
            allowed = chance.pick(ALLOWED)
            numbers = numbers_to_call_with(chance)
            ends = ends_in(mean(allowed, data, numbers))
            told = machine_told(compiled(data)[1:], allowed, numbers)
            self.assertEqual(told, told_of(ends, 1 + len(numbers) // 2), data)
            for end in ends:
                seen[end[0]] = seen.get(end[0], 0) + 1
        self.assertTrue(all(seen.get(end, 0) > 10 for end in range(5)), seen)

    def test_1_each_procedure_takes_as_many_values_as_takes_of_tells(self):
        for data, _, _ in programs(200, 12000):
            counts = takes_of(data)
            asked = [takes(p) for p in range(min(counts[0] + 1, 50))]
            told = after_load(compiled(data)[1:], *asked)
            self.assertEqual(told, [[count] for count in counts[1:] + [-1]][:50])

    def test_code_means_what_it_says(self):
        seen = {}
        for data, trees, chance in codes(1500, 20000):
            self.assertIsNotNone(trees, data)
            allowed = chance.pick(ALLOWED)
            numbers = numbers_to_call_with(chance)
            ends = oracle.code_ends(trees, allowed, numbers)
            told = machine_told(data, allowed, numbers)
            self.assertEqual(told, told_of(ends, 1 + len(numbers) // 2), data)
            for end in ends:
                seen[end[0]] = seen.get(end[0], 0) + 1
        self.assertTrue(all(seen.get(end, 0) > 10 for end in range(5)), seen)

    def test_2_no_function_takes_along_what_it_doesnt_use_nor_twice(self):
        for data, tree, _ in programs(600, 3000):
            trees = oracle.code_trees(compiled(data)[1:])
            self.assertEqual(takes_of(data), [len(trees) - 1] + [count for count, _ in trees[1:]])
            for count, part in trees[1:]:
                self.assertEqual(names_used(part), list(range(count)), data)
            for _, part in trees:
                for names in names_taken(part):
                    self.assertEqual(len(set(names)), len(names), data)

    def test_3_of_anybodys_code(self):
        for data, trees, chance in codes(400, 50000):
            self.assertEqual(oracle.written(trees), data)
            self.assertEqual(code_written(read_code(data)), data)
            other = altered(chance, data)
            self.assertEqual(load(other), [-1] if oracle.code_trees(other) is None else [0], other)

    def test_3_bytes_of_code_are_one_codes(self):
        for data, _, chance in programs(400, 4000):
            right = compiled(data)[1:]
            self.assertEqual(code_written(read_code(right)), right)
            for _ in range(5):
                other = altered(chance, right)
                trees = oracle.code_trees(other)
                self.assertEqual(load(other), [-1] if trees is None else [0], other)
                if trees is not None:
                    self.assertEqual(oracle.written(trees), other)
                    self.assertEqual(code_written(read_code(other)), other)

    def test_4_more_calls_allowed_change_nothing_else(self):
        for data, _, chance in programs(300, 5000):
            x = chance.pick(NUMBERS)
            told = mean(2000, data, [x, 2000])
            if told[1] > 1:
                continue
            made = told[3]
            self.assertEqual(mean(made, data, [x, 2000]), told)
            self.assertEqual(mean(min(made + 1, 2000), data, [x, 2000]), told)
            if made:
                self.assertEqual(mean(made - 1, data, [x, 2000]), [1, 3, 0, 0, 0])
            if told[0] == 2 and told[5] < 2:
                self.assertEqual(mean(made, data, [x, told[7]]), told)
                self.assertEqual(mean(made, data, [x, told[7] - 1]), told[:5] + [3, 0, 0, 0])

    def test_4_of_run_and_apply(self):
        compared = 0
        for data, _, chance in codes(600, 30000):
            numbers = numbers_to_call_with(chance)
            most = [2000 if place % 2 else number for place, number in enumerate(numbers)]
            told = machine_told(data, 2000, most)
            if [3] in told[::4]:
                continue
            made = [told[place][0] for place in range(2, len(told), 4)]
            # With just as many as are made, or a few more, all is the same.
            for more in (0, 1, 7):
                allowed = [min(2000, count + more) if count >= 0 else 2000 for count in made]
                fewer = [allowed[1 + place // 2] if place % 2 else number for place, number in enumerate(numbers)]
                self.assertEqual(machine_told(data, allowed[0], fewer), told, data)
            compared += 1
            if made[0] > 0:
                self.assertEqual(machine_told(data, made[0] - 1, most)[0], [3])
            if len(made) > 1 and told[0] == [1] and made[1] > 0:
                self.assertEqual(machine_told(data, 2000, [numbers[0], made[1] - 1])[4:], [[3]] + [REFUSED] * 3)
        self.assertGreater(compared, 300)

    def test_5_what_is_refused_changes_nothing(self):
        for data, _, chance in programs(300, 6000):
            right = compiled(data)[1:]
            wrong = altered(chance, right)
            if load(wrong) == [-1]:
                told = answers([5] + row(right) + [5] + row(wrong) + [6, 2] + row(wrong) + [6])
                self.assertEqual(told[:6], [1, 0, 1, -1, 1, right[0]])
                self.assertEqual(told[-2:], [1, right[0]])

    def test_5_of_what_is_out(self):
        for data, trees, chance in codes(300, 40000):
            wrong = altered(chance, data)
            if load(wrong) != REFUSED:
                continue
            x = chance.pick(NUMBERS)
            without = ask(loading(data), run(), LOOKS, apply(x), LOOKS, PROCS)
            refused = [loading(wrong), takes(len(trees) - 1), takes(4294967295), [2, 0], [3, 1, 255], [4, 1, 0, 0]]
            told = ask(loading(data), *refused, run(), *refused, LOOKS, *refused, apply(x), *refused, LOOKS, PROCS)
            r = [REFUSED] * len(refused)
            self.assertEqual(
                told, without[:1] + r + without[1:2] + r + without[2:5] + r + without[5:6] + r + without[6:], data)

    def test_bytes_that_are_a_program_and_bytes_that_arent(self):
        seen = [0, 0]
        for data, _, chance in programs(600, 7000):
            for _ in range(5):
                other = altered(chance, data)
                expected = 0 if oracle.program_tree(other) is None else 1
                seen[expected] += 1
                self.assertEqual(check(other), [expected], other)
                if not expected:
                    self.assertEqual([compiled(other), takes_of(other), mean(1, other)], [[-1]] * 3)
        self.assertGreater(min(seen), 100)


def names_used(part):
    """The taken values that a procedure names, in the order in which they first stand."""
    found = {}
    left = [part]
    while left:
        part = left.pop()
        if part[0] == 2:
            found[part[1]] = True
        elif part[0] == 11:
            left += reversed(part[2])
        elif 4 <= part[0] <= 9:
            left += reversed(part[1:])
    return list(found)


def names_taken(part):
    if part[0] == 11:
        return [part[2]]
    if 4 <= part[0] <= 9:
        return sum([names_taken(inner) for inner in part[1:]], [])
    return []


if __name__ == "__main__":
    unittest.main()
