import unittest

from closurize.machine import answers
from tests.support import (
    ARG, REFUSED, SELF, add, call, code, compiled, cond, fun, kept, less, let, load, made, many, num, procs_after_load,
    row, sub, taken, var)

TAKEN_IN = [0]
ONE = num(1)

SOME = [
    code(ONE),
    code(made(0), (0, ARG)),
    code(made(0), (0, SELF)),
    code(let(ONE, made(0, kept(0))), (1, taken(0))),
    code(call(made(0), ONE), (0, call(SELF, ARG))),
    code(add(ONE, num(2))),
    code(sub(ONE, num(2))),
    code(less(ONE, num(2))),
    code(cond(ONE, num(2), num(3))),
    code(let(ONE, let(num(2), add(kept(0), kept(1))))),
    code(made(1), (3, add(taken(0), taken(2))), (0, let(ONE, made(0, ARG, kept(0), SELF)))),
]


class Forms(unittest.TestCase):
    def test_each_form_of_an_expression(self):
        for data in SOME:
            self.assertEqual(procs_after_load(data), [0, data[0]], data)

    def test_no_bytes_at_all(self):
        self.assertEqual(load([]), REFUSED)

    def test_bytes_that_end_too_early(self):
        for data in SOME:
            for length in range(len(data)):
                self.assertEqual(load(data[:length]), REFUSED, data[:length])

    def test_bytes_behind_the_code(self):
        for data in SOME:
            for more in ([0], [1], [11], [255], ONE, [0] + ONE):
                self.assertEqual(load(data + more), REFUSED, data + more)

    def test_bytes_that_are_no_expression(self):
        for byte in range(12, 256):
            for behind in ([], [0], [0, 0], ONE + ONE + ONE):
                self.assertEqual(load(code([byte] + behind)), REFUSED)
                self.assertEqual(load(code(ONE, (0, [byte] + behind))), REFUSED)

    def test_how_many_parts_each_has(self):
        for head, parts in ((4, 2), (5, 2), (6, 2), (7, 2), (8, 3), (9, 2)):
            for given in range(5):
                self.assertEqual(load(code([head] + ONE * given)), TAKEN_IN if given == parts else REFUSED)

    def test_a_program_is_no_code_as_it_stands(self):
        self.assertEqual(load(fun(var(0))), REFUSED)
        self.assertEqual(load(ONE), REFUSED)

    def test_procedures_need_not_be_used(self):
        self.assertEqual(procs_after_load(code(ONE, (64, ONE), (0, ARG))), [0, 2])

    def test_values_taken_along_need_not_be_used_nor_be_different(self):
        self.assertEqual(load(code(let(ONE, made(0, kept(0), kept(0))), (2, ONE))), TAKEN_IN)

    def test_a_procedure_may_make_itself_and_one_ahead_or_behind(self):
        self.assertEqual(load(code(ONE, (0, made(0)), (0, made(0)), (0, made(1)))), TAKEN_IN)
        self.assertEqual(load(code(ONE, (0, made(2)), (0, ONE), (0, made(0)))), TAKEN_IN)


class Names(unittest.TestCase):
    def test_the_argument_and_the_running_function_arent_in_main(self):
        for name in (ARG, SELF):
            self.assertEqual(load(code(name)), REFUSED)
            self.assertEqual(load(code(let(ONE, name))), REFUSED)
            self.assertEqual(load(code(made(0, name), (1, ONE))), REFUSED)
            self.assertEqual(load(code(ONE, (0, name))), TAKEN_IN)
            self.assertEqual(load(code(ONE, (0, let(ONE, name)))), TAKEN_IN)
            self.assertEqual(load(code(ONE, (0, made(1, name)), (1, ONE))), TAKEN_IN)

    def test_0_stands_behind_1_and_3(self):
        for head in (1, 3):
            for byte in range(256):
                expected = TAKEN_IN if byte == 0 else REFUSED
                self.assertEqual(load(code(ONE, (2, [head, byte]))), expected)
                self.assertEqual(load(code(ONE, (1, made(0, [head, byte])))), expected)

    def test_taken_values_below_the_count(self):
        for count in (0, 1, 2, 63, 64):
            for k in (0, 1, 2, 62, 63, 64, 255):
                expected = TAKEN_IN if k < count else REFUSED
                self.assertEqual(load(code(ONE, (count, taken(k)))), expected, (count, k))
                self.assertEqual(load(code(ONE, (count, add(ONE, taken(k))))), expected, (count, k))
                self.assertEqual(load(code(ONE, (count, made(1, taken(k))), (1, ONE))), expected, (count, k))

    def test_each_procedure_has_its_own_count(self):
        self.assertEqual(load(code(ONE, (1, taken(0)), (2, taken(1)))), TAKEN_IN)
        self.assertEqual(load(code(ONE, (2, taken(0)), (1, taken(1)))), REFUSED)

    def test_none_taken_in_main(self):
        self.assertEqual(load(code(taken(0), (1, ONE))), REFUSED)
        self.assertEqual(load(code(made(0, taken(0)), (1, ONE))), REFUSED)

    def test_kept_values_below_those_around(self):
        for times in range(6):
            for k in range(8):
                expected = TAKEN_IN if k < times else REFUSED
                inner = ([9] + ONE) * times
                self.assertEqual(load(code(inner + kept(k))), expected, (times, k))
                self.assertEqual(load(code(ONE, (3, inner + kept(k)))), expected, (times, k))
                self.assertEqual(load(code(inner + made(0, kept(k)), (1, ONE))), expected, (times, k))
                self.assertEqual(load(code(ONE, (1, inner + made(0, kept(k))))), expected, (times, k))

    def test_as_many_kept_as_can_be(self):
        inner = ([9] + ONE) * 63
        self.assertEqual(load(code(inner + kept(62))), TAKEN_IN)
        self.assertEqual(load(code(inner + kept(63))), REFUSED)

    def test_a_kept_value_ends_with_its_9(self):
        self.assertEqual(load(code(let(kept(0), ONE))), REFUSED)
        self.assertEqual(load(code(let(ONE, let(kept(0), kept(1))))), TAKEN_IN)
        self.assertEqual(load(code(let(ONE, let(kept(1), kept(0))))), REFUSED)
        self.assertEqual(load(code(add(let(ONE, kept(0)), kept(0)))), REFUSED)
        self.assertEqual(load(code(let(let(ONE, kept(0)), kept(1)))), REFUSED)
        self.assertEqual(load(code(let(ONE, cond(let(ONE, kept(1)), kept(0), kept(1))))), REFUSED)

    def test_kept_values_belong_to_their_own_procedure(self):
        self.assertEqual(load(code(let(ONE, made(0)), (0, kept(0)))), REFUSED)
        self.assertEqual(load(code(ONE, (0, let(ONE, made(1))), (0, kept(0)))), REFUSED)


class Made(unittest.TestCase):
    def test_p_is_a_procedure_that_there_is(self):
        for count in range(4):
            procedures = [(0, ONE)] * count
            for p in (0, 1, 2, 3, 4, 64, 254, 255):
                self.assertEqual(load(code(made(p), *procedures)), TAKEN_IN if p < count else REFUSED, (count, p))

    def test_n_is_its_count(self):
        for count in range(4):
            for n in range(5):
                names = [kept(0)] * n
                expected = TAKEN_IN if n == count else REFUSED
                self.assertEqual(load(code(let(ONE, made(0, *names)), (count, ONE))), expected)
                self.assertEqual(load(code(let(ONE, made(1, *names)), (4, ONE), (count, ONE), (4, ONE))), expected)
                self.assertEqual(load(code(ONE, (4, ONE), (0, made(0, *[ARG] * n)))), TAKEN_IN if n == 4 else REFUSED)

    def test_as_many_values_as_may_be(self):
        self.assertEqual(load(code(let(ONE, made(0, *[kept(0)] * 64)), (64, ONE))), TAKEN_IN)
        self.assertEqual(load(code(let(ONE, made(0, *[kept(0)] * 65)), (65, ONE))), REFUSED)

    def test_only_names_are_taken_along(self):
        for head in range(256):
            expected = TAKEN_IN if head in (1, 2, 3, 10) else REFUSED
            self.assertEqual(load(code(ONE, (1, let(ONE, made(0, [head, 0]))))), expected, head)
        self.assertEqual(load(code(made(0, ONE), (1, ONE))), REFUSED)

    def test_each_of_the_names_is_held(self):
        right = [ARG, taken(3), SELF, kept(0)]
        wrong = [[1, 1], taken(4), [3, 1], kept(1)]
        self.assertEqual(load(code(ONE, (4, let(ONE, made(0, *right))))), TAKEN_IN)
        for place in range(4):
            names = right[:place] + [wrong[place]] + right[place + 1:]
            self.assertEqual(load(code(ONE, (4, let(ONE, made(0, *names))))), REFUSED, names)

    def test_held_wherever_it_stands(self):
        for wrong in (made(1), made(0, ARG)):
            self.assertEqual(load(code(ONE, (0, add(made(0), cond(ONE, ONE, made(0)))))), TAKEN_IN)
            self.assertEqual(load(code(ONE, (0, add(made(0), cond(ONE, ONE, wrong))))), REFUSED)
            self.assertEqual(load(code(ONE, (0, add(wrong, made(0))))), REFUSED)


class Bounds(unittest.TestCase):
    def test_8192_bytes_and_one_more(self):
        most = code(ONE, (0, many(5, [cond(ARG, ARG, ARG)] + [ONE] * 1363)))
        self.assertEqual(len(most), 8192)
        self.assertEqual(load(most), TAKEN_IN)
        fewer = code(ONE, (0, many(5, [ONE] * 1364)))
        self.assertEqual(len(fewer), 8190)
        self.assertEqual(load(fewer), TAKEN_IN)
        more = code(ONE, (0, many(5, [ONE] * 1364 + [ARG])))
        self.assertEqual(len(more), 8193)
        self.assertEqual(load(more), REFUSED)

    def test_64_deep_and_one_more_through_each_part(self):
        for head, parts in ((4, 2), (5, 2), (6, 2), (7, 2), (8, 3), (9, 2)):
            for place in range(parts):
                ahead = [head] + ONE * place
                behind = ONE * (parts - 1 - place)
                most = ahead * 63 + ONE + behind * 63
                self.assertEqual(load(code(most)), TAKEN_IN, (head, place))
                self.assertEqual(load(code(ahead + most + behind)), REFUSED, (head, place))
                self.assertEqual(load(code(ONE, (0, most))), TAKEN_IN, (head, place))
                self.assertEqual(load(code(ONE, (0, ahead + most + behind))), REFUSED, (head, place))

    def test_0_to_3_and_10_and_11_are_1_deep(self):
        for leaf in (ONE, ARG, taken(0), SELF, kept(0), made(0, kept(0))):
            inner = ([9] + ONE) * 63
            self.assertEqual(load(code(ONE, (1, inner + leaf))), TAKEN_IN, leaf)
            self.assertEqual(load(code(ONE, (1, [9] + ONE + inner + leaf))), REFUSED, leaf)

    def test_each_procedure_is_as_deep_as_may_be(self):
        deep = ([5] + ONE) * 63 + ONE
        self.assertEqual(load(code(deep, (0, deep), (0, deep))), TAKEN_IN)

    def test_64_procedures_and_one_more(self):
        self.assertEqual(procs_after_load(code(made(63), *[(0, ARG)] * 64)), [0, 64])
        self.assertEqual(load(code(ONE, *[(0, ARG)] * 65)), REFUSED)
        self.assertEqual(load(code(ONE, *[(0, ARG)] * 255)), REFUSED)

    def test_64_values_and_one_more(self):
        self.assertEqual(load(code(ONE, (64, taken(63)))), TAKEN_IN)
        self.assertEqual(load(code(ONE, (65, taken(63)))), REFUSED)
        self.assertEqual(load(code(ONE, (255, ONE))), REFUSED)
        self.assertEqual(load(code(ONE, (0, ONE), (64, ONE))), TAKEN_IN)
        self.assertEqual(load(code(ONE, (0, ONE), (65, ONE))), REFUSED)

    def test_as_many_procedures_as_are_told(self):
        self.assertEqual(load([0] + ONE + [0] + ONE), REFUSED)
        self.assertEqual(load([1] + ONE), REFUSED)
        self.assertEqual(load([2] + ONE + [0] + ONE), REFUSED)
        self.assertEqual(load([2] + ONE + [0] + ONE + [0] + ONE), TAKEN_IN)

    def test_as_long_and_deep_as_may_be_handed_in(self):
        for head in range(4, 12):
            self.assertEqual(load([0] + [head] * 9999), REFUSED)
            self.assertEqual(load([0] + [head] * 5000), REFUSED)
        self.assertEqual(load([0] + ([9] + ONE) * 1000 + ONE), REFUSED)
        self.assertEqual(load([0] * 10000), REFUSED)


class Procs(unittest.TestCase):
    def test_none_before_any_load(self):
        self.assertEqual(answers([6]), [1, -1])
        self.assertEqual(answers([6, 6]), [1, -1, 1, -1])

    def test_of_the_code_that_was_loaded_last(self):
        two = code(ONE, (0, ARG), (0, ARG))
        none = code(ONE)
        self.assertEqual(
            answers([6, 5] + row(two) + [6, 5] + row(none) + [6, 6, 5] + row(two) + [6]),
            [1, -1, 1, 0, 1, 2, 1, 0, 1, 0, 1, 0, 1, 0, 1, 2])

    def test_a_refused_load_leaves_the_code_that_was_there(self):
        two = code(ONE, (0, ARG), (0, ARG))
        for wrong in ([], [0], [3], code(ONE) + [0], code(ARG), code(made(0)), code(made(0), (1, ONE)), [65] + ONE):
            asked = [5] + row(wrong) + [6, 5] + row(two) + [5] + row(wrong) + [6]
            self.assertEqual(answers(asked), [1, -1, 1, -1, 1, 0, 1, -1, 1, 2])

    def test_of_code_that_was_made_here(self):
        told = compiled(fun(fun(add(var(0), var(1)))))
        self.assertEqual(procs_after_load(told[1:]), [0, 2])


if __name__ == "__main__":
    unittest.main()
