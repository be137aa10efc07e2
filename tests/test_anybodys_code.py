"""What code means that no program becomes."""

import unittest

from tests.support import (
    ARG, LOOKS, SELF, add, after_load, apply, call, code, cond, fault_told, function_out, kept, less, let, made, many,
    num, number_out, run, sub, taken)

ONE = num(1)


def ran(data, allowed=2000):
    return after_load(data, run(allowed), LOOKS)


class Taking(unittest.TestCase):
    def test_the_same_value_twice(self):
        data = code(let(num(5), call(made(0, kept(0), kept(0)), num(100))), (2, sub(ARG, add(taken(0), taken(1)))))
        self.assertEqual(ran(data), number_out(90, 1, 3))
        data = code(call(made(0), num(4)), (0, call(made(1, ARG, ARG, ARG), ONE)), (3, add(taken(2), ARG)))
        self.assertEqual(ran(data), number_out(5, 2, 5))

    def test_values_that_it_doesnt_use(self):
        for count in (1, 2, 63, 64):
            data = code(let(ONE, made(0, *[kept(0)] * count)), (count, ARG))
            self.assertEqual(
                after_load(data, run(), LOOKS, apply(8), LOOKS),
                function_out(0, 1 + count) + number_out(8, 1, 1 + count))

    def test_values_in_their_own_order(self):
        names = [kept(2), kept(0), kept(1)]
        for k, expected in enumerate((10, 30, 20)):
            data = code(let(num(10), let(num(20), let(num(30), call(made(0, *names), ONE)))), (3, taken(k)))
            self.assertEqual(ran(data), number_out(expected, 1, 4))

    def test_each_of_64_values_is_at_its_place(self):
        main = made(0, *[kept(k % 62) for k in range(64)])
        for k in range(62):
            main = let(num(1000 + k), main)
        for place in (0, 1, 2, 30, 61, 62, 63):
            told = after_load(code(main, (64, add(taken(place), ARG))), run(), apply(0), LOOKS)
            self.assertEqual(told, [[1]] + number_out(1000 + place % 62, 1, 65), place)

    def test_64_values_handed_on_turned_round(self):
        handing = (64, made(1, *[taken(63 - k) for k in range(64)]))
        for place, expected in ((0, 5), (62, 5), (63, 700)):
            data = code(let(num(700), let(num(5), made(0, kept(1), *[kept(0)] * 63))), handing, (64, taken(place)))
            self.assertEqual(
                after_load(data, run(), apply(1), apply(1), LOOKS), [[1], [1]] + number_out(expected, 1, 130))

    def test_the_argument_and_the_running_function(self):
        # Procedure 0 hands itself on; procedure 1 calls it with what's left.
        data = code(
            call(made(0), num(6)), (0, cond(ARG, call(made(1, SELF, ARG), ONE), num(77))),
            (2, call(taken(0), sub(taken(1), ARG))))
        self.assertEqual(ran(data), number_out(77, 13, 19))

    def test_the_running_function_is_the_one_that_was_called(self):
        # Each function made of one procedure is itself with its own values.
        data = code(
            let(num(3), let(num(40), let(made(0, kept(1)), let(made(0, kept(1)), add(
                call(call(kept(1), ONE), num(0)), call(call(kept(0), ONE), num(0))))))),
            (1, cond(ARG, SELF, taken(0))))
        self.assertEqual(ran(data), number_out(43, 4, 4))

    def test_the_running_function_taken_along_is_the_maker(self):
        data = code(
            made(0), (0, made(1, SELF, ARG)), (2, cond(ARG, call(taken(0), ARG), add(taken(1), num(100)))))
        self.assertEqual(
            after_load(data, run(), LOOKS, apply(5), LOOKS, apply(7), LOOKS, apply(0), LOOKS),
            function_out(0, 1) + function_out(1, 4) + function_out(2, 7) + number_out(107, 1, 7))

    def test_itself_in_a_procedure_within_is_another(self):
        data = code(made(0), (0, made(1)), (0, cond(ARG, SELF, num(6))))
        self.assertEqual(
            after_load(data, run(), apply(1), apply(1), LOOKS, apply(0), LOOKS),
            [[1], [1]] + function_out(1, 2) + number_out(6, 1, 2))

    def test_functions_taken_along(self):
        data = code(
            let(made(0), let(made(1, kept(0)), made(2, kept(0), kept(1)))),
            (0, add(ARG, num(3))), (1, call(taken(0), call(taken(0), ARG))),
            (2, sub(call(taken(0), ARG), call(taken(1), ARG))))
        self.assertEqual(after_load(data, run(), LOOKS, apply(9), LOOKS), function_out(0, 6) + number_out(3, 5, 6))

    def test_what_is_taken_along_stays_as_it_was(self):
        # What is kept behind the making, at the place of what was taken, doesn't reach it.
        data = code(
            let(let(num(5), made(0, kept(0))), let(num(6), let(num(7), call(kept(2), num(0))))), (1, taken(0)))
        self.assertEqual(ran(data), number_out(5, 1, 2))
        data = code(
            made(0), (0, let(ARG, let(made(1, kept(0), ARG), let(num(50), kept(1))))), (2, sub(taken(0), taken(1))))
        self.assertEqual(after_load(data, run(), apply(4), apply(1), LOOKS), [[1], [1]] + number_out(0, 1, 4))

    def test_the_same_function_called_again_has_the_same_values(self):
        data = code(
            let(num(5), let(made(0, kept(0)), add(call(kept(0), num(10)), call(kept(0), num(10))))),
            (1, let(add(taken(0), ARG), let(kept(0), add(kept(1), taken(0))))))
        self.assertEqual(ran(data), number_out(40, 2, 2))

    def test_procedures_ahead_behind_and_itself(self):
        data = code(
            call(made(1), num(9)), (0, cond(ARG, call(made(1), sub(ARG, ONE)), num(100))),
            (0, cond(ARG, call(made(0), sub(ARG, ONE)), num(200))))
        self.assertEqual(ran(data), number_out(100, 10, 10))
        data = code(call(made(0), num(9)), (0, cond(ARG, add(ONE, call(made(0), sub(ARG, ONE))), num(0))))
        self.assertEqual(ran(data), number_out(9, 10, 10))


class Keeping(unittest.TestCase):
    def test_within_several_9s(self):
        main = num(0)
        for k in range(4):
            for_each = let(num(1), let(num(20), let(num(300), let(num(4000), kept(k)))))
            self.assertEqual(ran(code(for_each)), number_out((4000, 300, 20, 1)[k]))
            main = add(main, for_each)
        self.assertEqual(ran(code(main)), number_out(4321))

    def test_in_a_procedure_with_values(self):
        for k in range(3):
            data = code(
                let(num(7), made(0, kept(0), kept(0))), (2, let(num(10), let(ARG, let(taken(1), kept(k))))))
            self.assertEqual(after_load(data, run(), apply(30), LOOKS), [[1]] + number_out((7, 30, 10)[k], 1, 3))

    def test_a_9_within_the_first_part_of_a_9(self):
        data = code(let(num(1), let(let(num(20), add(kept(0), kept(1))), sub(kept(0), kept(1)))))
        self.assertEqual(ran(data), number_out(20))

    def test_one_behind_another(self):
        data = code(let(num(1), add(let(num(20), kept(0)), add(let(num(300), kept(1)), kept(0)))))
        self.assertEqual(ran(data), number_out(22))

    def test_in_one_part_of_a_choice(self):
        for x, expected in ((1, 20 + 1), (0, 300 - 1)):
            data = code(
                let(ONE, add(cond(num(x), let(num(20), kept(0)), let(num(300), sub(kept(0), kept(1)))),
                             cond(num(x), kept(0), sub(kept(0), kept(0))))))
            self.assertEqual(ran(data), number_out(expected))

    def test_each_running_has_its_own(self):
        # The caller's kept values are what they were, however many the procedure that it calls keeps.
        data = code(
            let(num(3), let(call(made(0), num(5)), sub(kept(0), kept(1)))),
            (0, let(num(100), let(num(200), cond(ARG, add(kept(1), call(SELF, sub(ARG, ONE))), kept(0))))))
        self.assertEqual(ran(data), number_out(697, 6, 1))

    def test_not_seen_from_the_procedure_that_is_called(self):
        # What is kept in the procedure is its own, whatever its caller keeps.
        callee = (0, let(add(ARG, num(10)), kept(0)))
        data = code(let(num(500), let(num(600), call(made(0), ONE))), callee)
        self.assertEqual(ran(data), number_out(11, 1, 1))
        data = code(
            let(num(500), call(made(1), ONE)), callee, (0, let(num(700), add(call(made(0), ARG), kept(0)))))
        self.assertEqual(ran(data), number_out(711, 2, 2))

    def test_kept_while_a_function_that_comes_out_is_applied(self):
        data = code(let(num(3), let(num(4), made(0, kept(1)))), (1, let(num(9), sub(kept(0), taken(0)))))
        self.assertEqual(after_load(data, run(), apply(0), LOOKS), [[1]] + number_out(6, 1, 2))

    def test_a_fault_within_a_9_leaves_nothing_kept(self):
        data = code(let(num(3), call(made(0), kept(0))), (0, let(num(8), add(ARG, kept(0)))))
        self.assertEqual(
            after_load(data, run(0), run(1), LOOKS, run(0), run(1), LOOKS),
            ([[3]] + number_out(11, 1, 1)) * 2)


class Bounds(unittest.TestCase):
    def test_64_deep_through_each_part(self):
        zero = num(0)
        for ahead, behind, inner, expected in (
                (add([], ONE)[:1], ONE, ONE, 64), (add(ONE, []), [], ONE, 64), (sub([], ONE)[:1], ONE, num(100), 37),
                ([8] + ONE, ONE, num(9), 9), ([8] + zero + ONE, [], num(9), 9), ([8], num(5) + num(5), ONE, 5),
                ([9] + ONE, [], num(9), 9), ([9], kept(0), num(9), 9)):
            expression = ahead * 63 + inner + behind * 63
            self.assertEqual(ran(code(expression)), number_out(expected), ahead)
            self.assertEqual(ran(code(call(made(0), ONE), (0, expression))), number_out(expected, 1, 1), ahead)

    def test_63_kept_values(self):
        for k in range(63):
            main = kept(k)
            for value in range(63):
                main = let(num(value), main)
            self.assertEqual(ran(code(main)), number_out(k))
            self.assertEqual(ran(code(call(made(0), ONE), (0, main))), number_out(k, 1, 1))

    def test_128_calls_within_one_another_each_64_deep(self):
        again = ([5] + ONE) * 60 + call(SELF, sub(ARG, ONE))
        data = code(made(0), (0, cond(ARG, again, num(0))))
        self.assertEqual(after_load(data, run(), apply(127), LOOKS), [[1]] + number_out(60 * 127, 128, 1))
        self.assertEqual(after_load(data, run(), apply(128), LOOKS), [[1]] + fault_told(4))

    def test_64_procedures(self):
        # Each calls the next one; the last gives what it was called with.
        procedures = [(0, call(made(p + 1), add(ARG, ONE))) for p in range(63)] + [(0, ARG)]
        self.assertEqual(ran(code(call(made(0), num(5)), *procedures)), number_out(68, 64, 64))
        self.assertEqual(ran(code(call(made(63), num(5)), *procedures)), number_out(5, 1, 1))
        self.assertEqual(ran(code(call(made(62), num(5)), *procedures)), number_out(6, 2, 2))

    def test_8192_bytes(self):
        data = code(made(0), (0, many(5, [cond(ARG, ARG, ARG)] * 2 + [ARG] * 2 + [ONE] * 1361)))
        self.assertEqual(len(data), 8192)
        self.assertEqual(after_load(data, run(), apply(1000), LOOKS), [[1]] + number_out(5361, 1, 1))

    def test_procedures_that_are_never_made(self):
        self.assertEqual(ran(code(num(4), (64, call(ARG, ARG)), (0, SELF))), number_out(4))


class CountingUp(unittest.TestCase):
    def test_a_function_made_takes_1_and_n_cells(self):
        for n in (0, 1, 2, 17, 63, 64):
            self.assertEqual(ran(code(let(ONE, made(0, *[kept(0)] * n)), (n, ARG))), function_out(0, 1 + n))

    def test_each_making_counts_and_calls_take_none(self):
        data = code(
            let(made(0), add(call(kept(0), num(20)), call(kept(0), num(20)))),
            (0, cond(ARG, let(made(1, ARG, SELF), call(SELF, sub(ARG, ONE))), num(0))), (2, ARG))
        self.assertEqual(ran(data), number_out(0, 42, 121))


if __name__ == "__main__":
    unittest.main()
