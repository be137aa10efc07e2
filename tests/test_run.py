"""The calls takes, run, apply, result, calls and cells."""

import unittest

from tests.support import (
    ARG, CALLS, CELLS, LOOKS, NOTHING_OUT, PROCS, REFUSED, RESULT, SELF, add, after_load, apply, ask, call, code, cond,
    fault_told, function_out, kept, less, let, loading, made, many, num, number_out, run, sub, takes, taken)

TOP = 4294967295
LOWEST = 2147483648
ONE = num(1)
WRONG = call(num(1), num(2))

IDENTITY = (0, ARG)
# Called with 127 it makes 128 calls within one another: it calls itself down to 0.
DOWN = (0, cond(ARG, call(SELF, sub(ARG, ONE)), num(5)))
# Gives back a function that adds, 2 cells each.
ADDER = code(made(0), (0, made(1, ARG)), (1, add(taken(0), ARG)))
# With no call allowed this is fault 3.
ONE_CALL = call(made(0), ONE)

NO_CODE = [[], [0], [1], [9, 9], code(ONE) + [0], code(ARG), code(made(0)), code(made(0), (1, ONE)), [65] + ONE]


def ran(data, allowed=2000):
    return after_load(data, run(allowed), LOOKS)


class Takes(unittest.TestCase):
    def test_of_each_procedure(self):
        data = code(ONE, (3, ARG), (0, ARG), (64, taken(63)), (1, SELF))
        self.assertEqual(after_load(data, takes(0), takes(1), takes(2), takes(3)), [[3], [0], [64], [1]])
        self.assertEqual(after_load(data, takes(3), takes(0), takes(3)), [[1], [3], [1]])

    def test_no_such_procedure(self):
        for count in (0, 1, 2, 5, 64):
            data = code(ONE, *[(7, ARG)] * count)
            for p in (0, 1, 2, 4, 5, 6, 63, 64, 65, 255, 256, LOWEST, TOP - 1, TOP):
                self.assertEqual(after_load(data, takes(p)), [[7]] if p < count else [REFUSED], (count, p))

    def test_refused_it_changes_nothing(self):
        self.assertEqual(
            after_load(ADDER, run(), takes(2), LOOKS, takes(TOP), apply(1), takes(2), LOOKS),
            [[1], [-1], [1], [0], [1], [-1], [1], [-1], [1], [1], [3]])

    def test_of_the_code_that_was_loaded_last(self):
        first = code(ONE, (1, ARG), (2, ARG))
        second = code(ONE, (5, ARG))
        told = ask(loading(first), takes(0), takes(1), loading(second), takes(0), takes(1))
        self.assertEqual(told, [[0], [1], [2], [0], [5], [-1]])

    def test_whatever_was_run(self):
        self.assertEqual(
            after_load(ADDER, takes(1), run(), takes(1), apply(1, 0), takes(1), takes(0)),
            [[1], [1], [1], [3], [1], [0]])


class NoCode(unittest.TestCase):
    def test_each_call_before_any_load(self):
        for asked in (PROCS, takes(0), takes(TOP), run(0), run(2000), apply(0, 0), apply(TOP, 2000), RESULT, CALLS,
                      CELLS):
            self.assertEqual(ask(asked), [REFUSED], asked)
            self.assertEqual(ask(asked, asked, LOOKS), [REFUSED] * 5, asked)

    def test_a_refused_load_brings_none(self):
        for data in NO_CODE:
            self.assertEqual(
                ask(loading(data), PROCS, takes(0), run(), apply(1), LOOKS), [REFUSED] * 8, data)

    def test_what_is_asked_of_programs_brings_none(self):
        program = [2, 1, 0]
        told = ask([1, 3] + program, [2, 3] + program, [3, 3] + program, [4, 9, 3] + program + [2, 7, 9],
                   PROCS, takes(0), run(), apply(1), LOOKS)
        self.assertEqual(told[4:], [REFUSED] * 7)

    def test_once_it_is_loaded_all_are_answered(self):
        self.assertEqual(
            ask(run(), LOOKS, loading(ADDER), run(), LOOKS),
            [REFUSED] * 4 + [[0]] + function_out(0, 1))


class Run(unittest.TestCase):
    def test_a_number(self):
        for value in (0, 1, 255, 256, 0x04030201, LOWEST, TOP):
            self.assertEqual(ran(code(num(value)), 0), number_out(value))

    def test_a_function(self):
        self.assertEqual(ran(code(made(0), IDENTITY), 0), function_out(0, 1))
        self.assertEqual(ran(code(let(ONE, made(0, kept(0), kept(0))), (2, ARG)), 0), function_out(0, 3))

    def test_sums_differences_and_less(self):
        for a, b, total, difference, smaller in (
                (1, 2, 3, TOP, 1), (2, 1, 3, 1, 0), (TOP, 1, 0, TOP - 1, 1), (1, TOP, 0, 2, 0),
                (LOWEST, LOWEST, 0, 0, 0), (LOWEST - 1, LOWEST, TOP, TOP, 0), (LOWEST, LOWEST - 1, TOP, 1, 1),
                (0, TOP, TOP, 1, 0), (TOP, 0, TOP, TOP, 1), (LOWEST, TOP, LOWEST - 1, LOWEST + 1, 1)):
            self.assertEqual(ran(code(add(num(a), num(b)))), number_out(total))
            self.assertEqual(ran(code(sub(num(a), num(b)))), number_out(difference))
            self.assertEqual(ran(code(less(num(a), num(b)))), number_out(smaller))

    def test_a_choice_and_its_other_part_not_worked_out(self):
        for value in (1, 256, LOWEST, TOP):
            self.assertEqual(ran(code(cond(num(value), num(7), WRONG))), number_out(7))
        self.assertEqual(ran(code(cond(num(0), WRONG, num(8)))), number_out(8))
        self.assertEqual(ran(code(cond(num(0), made(0), num(8)), IDENTITY)), number_out(8))
        self.assertEqual(ran(code(cond(ONE, num(7), ONE_CALL), IDENTITY), 0), number_out(7))

    def test_calls_and_cells(self):
        self.assertEqual(ran(code(call(made(0), num(41)), (0, add(ARG, ONE)))), number_out(42, 1, 1))
        self.assertEqual(ran(code(call(call(made(0), num(9)), num(4)), (0, made(1, ARG)), (1, sub(taken(0), ARG)))),
                         number_out(5, 2, 3))
        total = (0, cond(ARG, add(ARG, call(SELF, sub(ARG, ONE))), num(0)))
        self.assertEqual(ran(code(call(made(0), num(10)), total)), number_out(55, 11, 1))

    def test_calls_allowed_just_enough_and_one_too_few(self):
        self.assertEqual(ran(code(num(3)), 0), number_out(3))
        self.assertEqual(ran(code(ONE_CALL, IDENTITY), 0), fault_told(3))
        self.assertEqual(ran(code(ONE_CALL, IDENTITY), 1), number_out(1, 1, 1))
        self.assertEqual(ran(code(call(made(0), num(20)), DOWN), 20), fault_told(3))
        self.assertEqual(ran(code(call(made(0), num(20)), DOWN), 21), number_out(5, 21, 1))
        calls = [call(kept(0), num(127))] * 15
        self.assertEqual(
            ran(code(let(made(0), many(5, calls + [call(kept(0), num(79))])), DOWN)), number_out(80, 2000, 1))
        self.assertEqual(
            ran(code(let(made(0), many(5, calls + [call(kept(0), num(79))])), DOWN), 1999), fault_told(3))
        self.assertEqual(
            ran(code(let(made(0), many(5, calls + [call(kept(0), num(80))])), DOWN)), fault_told(3))

    def test_twice_all_is_from_the_beginning(self):
        data = code(let(call(made(0), num(3)), made(1, kept(0))), IDENTITY, (1, taken(0)))
        once = function_out(1, 3)
        self.assertEqual(after_load(data, run(), LOOKS, run(), LOOKS, run(1), LOOKS), once * 3)
        self.assertEqual(
            after_load(data, run(), apply(1), LOOKS, run(), LOOKS), [[1], [0], [0, 3], [1], [3]] + once)

    def test_what_came_out_before_is_forgotten(self):
        data = code(ONE_CALL, IDENTITY)
        self.assertEqual(
            after_load(data, run(1), LOOKS, run(0), LOOKS, apply(1), run(1), LOOKS),
            number_out(1, 1, 1) + fault_told(3) + [[-1]] + number_out(1, 1, 1))
        data = code(call(made(0), ONE), (0, SELF))
        self.assertEqual(
            after_load(data, run(1), LOOKS, run(0), apply(1), LOOKS),
            function_out(1, 1) + [[3], [-1]] + NOTHING_OUT)


class Order(unittest.TestCase):
    """With no call allowed ONE_CALL is fault 3 and WRONG fault 2: the earlier one is told."""

    def test_from_left_to_right(self):
        for join in (call, add, sub, less, let, lambda a, b: cond(a, b, b)):
            self.assertEqual(ran(code(join(WRONG, ONE_CALL), IDENTITY), 0), fault_told(2))
            self.assertEqual(ran(code(join(ONE_CALL, WRONG), IDENTITY), 0), fault_told(3))

    def test_a_call_looks_at_f_behind_a(self):
        self.assertEqual(ran(code(call(num(1), ONE_CALL), IDENTITY), 0), fault_told(3))

    def test_both_parts_are_worked_out_before_either_is_looked_at(self):
        for join in (add, sub, less):
            self.assertEqual(ran(code(join(made(0), ONE_CALL), IDENTITY), 0), fault_told(3))
            self.assertEqual(ran(code(join(ONE_CALL, made(0)), IDENTITY), 0), fault_told(3))

    def test_the_first_of_a_choice_is_looked_at_before_the_others(self):
        self.assertEqual(ran(code(cond(made(0), ONE_CALL, ONE_CALL), IDENTITY), 0), fault_told(2))

    def test_at_a_call_2_then_3_then_4(self):
        self.assertEqual(ran(code(WRONG), 0), fault_told(2))
        deeper = code(call(made(0), num(128)), DOWN)
        self.assertEqual(ran(deeper, 128), fault_told(3))
        self.assertEqual(ran(deeper, 129), fault_told(4))
        self.assertEqual(ran(deeper, 2000), fault_told(4))
        # At the bottom, inside 128 calls and with none left, a number is called.
        bottom = code(call(made(0), num(127)), (0, cond(ARG, call(SELF, sub(ARG, ONE)), WRONG)))
        self.assertEqual(ran(bottom, 128), fault_told(2))
        self.assertEqual(ran(bottom, 2000), fault_told(2))
        # 2 before 3, with the calls allowed all made.
        self.assertEqual(ran(code(call(made(0), ONE), (0, call(ARG, ONE))), 1), fault_told(2))


class Faults(unittest.TestCase):
    def test_2_a_number_called(self):
        for number in (0, 1, TOP):
            self.assertEqual(ran(code(call(num(number), ONE))), fault_told(2))
        self.assertEqual(ran(code(call(ONE_CALL, ONE), IDENTITY)), fault_told(2))

    def test_2_a_function_where_a_number_must_stand(self):
        for join in (add, sub, less):
            for a, b in ((made(0), ONE), (ONE, made(0)), (made(0), made(0))):
                self.assertEqual(ran(code(join(a, b), IDENTITY)), fault_told(2))
        self.assertEqual(ran(code(cond(made(0), ONE, ONE), IDENTITY)), fault_told(2))

    def test_functions_may_stand_where_anything_may(self):
        self.assertEqual(ran(code(cond(ONE, made(0), ONE), IDENTITY)), function_out(0, 1))
        self.assertEqual(ran(code(let(made(0), kept(0)), IDENTITY)), function_out(0, 1))
        self.assertEqual(ran(code(call(made(0), made(0)), IDENTITY)), function_out(1, 2))
        self.assertEqual(ran(code(let(made(0), made(1, kept(0))), IDENTITY, (1, ARG))), function_out(0, 3))

    def test_4_128_calls_within_one_another_and_one_more(self):
        self.assertEqual(ran(code(call(made(0), num(127)), DOWN)), number_out(5, 128, 1))
        self.assertEqual(ran(code(call(made(0), num(128)), DOWN)), fault_told(4))
        self.assertEqual(ran(code(call(made(1), num(126)), DOWN, (0, call(made(0), ARG)))), number_out(5, 128, 2))
        self.assertEqual(ran(code(call(made(1), num(127)), DOWN, (0, call(made(0), ARG)))), fault_told(4))

    def test_4_calls_that_ended_dont_count(self):
        twice = code(let(made(0), add(call(kept(0), num(127)), call(kept(0), num(127)))), DOWN)
        self.assertEqual(ran(twice), number_out(10, 256, 1))
        self.assertEqual(ran(code(let(made(0), call(kept(0), call(kept(0), num(127)))), DOWN)), number_out(5, 134, 1))

    def test_5_8192_cells_and_one_more(self):
        # 1 cell, then 126 times 65.
        def filled(last):
            fill = [call(kept(0), ONE)] * 126
            return code(let(made(1), let(many(5, fill), last)),
                        (64, ONE), (0, let(made(0, *[ARG] * 64), num(0))), (0, ARG), (1, ARG))

        self.assertEqual(ran(filled(kept(0))), number_out(0, 126, 8191))
        self.assertEqual(ran(filled(made(2))), function_out(126, 8192))
        self.assertEqual(ran(filled(let(made(2), ONE))), number_out(1, 126, 8192))
        self.assertEqual(ran(filled(let(made(2), made(2)))), fault_told(5))
        self.assertEqual(ran(filled(made(3, kept(0)))), fault_told(5))
        self.assertEqual(ran(filled(let(made(3, kept(0)), ONE))), fault_told(5))

    def test_5_is_told_at_the_making(self):
        # 1 cell, then 65 by each call but the last, which calls a number.
        wide = (0, cond(ARG, let(made(1, *[ARG] * 64), call(SELF, sub(ARG, ONE))), WRONG))
        self.assertEqual(ran(code(call(made(0), num(126)), wide, (64, ONE))), fault_told(2))
        self.assertEqual(ran(code(call(made(0), num(127)), wide, (64, ONE))), fault_told(5))

    def test_after_a_fault_all_goes_on(self):
        data = code(call(made(0), num(20)), DOWN)
        for _ in range(2):
            self.assertEqual(
                after_load(data, run(5), LOOKS, apply(1), run(21), LOOKS, run(20), LOOKS),
                fault_told(3) + [[-1]] + number_out(5, 21, 1) + fault_told(3))


class Apply(unittest.TestCase):
    def test_the_function_that_is_out_is_called(self):
        for x in (0, 1, LOWEST, TOP):
            self.assertEqual(
                after_load(code(made(0), IDENTITY), run(0), apply(x, 1), LOOKS), [[1]] + number_out(x, 1, 1))

    def test_what_comes_out_is_applied_again(self):
        self.assertEqual(
            after_load(ADDER, run(0), LOOKS, apply(40, 1), LOOKS, apply(2, 1), LOOKS),
            function_out(0, 1) + function_out(1, 3) + number_out(42, 1, 3))

    def test_several_times_over_cells_go_on_and_calls_are_told_anew(self):
        data = code(made(0), (0, let(made(1, ARG), let(call(kept(0), ONE), SELF))), (1, ARG))
        expected = function_out(0, 1)
        for k in range(1, 6):
            expected += function_out(2, 1 + 2 * k)
        self.assertEqual(after_load(data, run(), LOOKS, *[apply(k, 2) + LOOKS for k in range(5)]), expected)
        self.assertEqual(
            after_load(data, run(), *[apply(k, 2) + LOOKS for k in range(5)], run(), LOOKS)[-4:], function_out(0, 1))

    def test_this_call_counts_too(self):
        data = code(made(0), DOWN)
        for x, allowed, expected in (
                (7, 8, number_out(5, 8, 1)), (7, 7, fault_told(3)), (0, 0, fault_told(3)), (0, 1, number_out(5, 1, 1)),
                (127, 2000, number_out(5, 128, 1)), (128, 2000, fault_told(4)), (128, 128, fault_told(3)),
                (TOP, 129, fault_told(4))):
            self.assertEqual(after_load(data, run(0), apply(x, allowed), LOOKS), [[1]] + expected, (x, allowed))

    def test_no_call_allowed_leaves_nothing_out(self):
        self.assertEqual(
            after_load(ADDER, run(), apply(1, 0), LOOKS, apply(1, 2000), LOOKS, run(), LOOKS),
            [[1]] + fault_told(3) + [[-1]] + NOTHING_OUT + function_out(0, 1))

    def test_each_fault_leaves_nothing_out(self):
        expressions = (call(ARG, ONE), add(SELF, ONE), call(SELF, ARG))
        for expression, fault in zip(expressions, (2, 2, 4)):
            self.assertEqual(
                after_load(code(made(0), (0, expression)), run(), apply(1), LOOKS, apply(1), LOOKS),
                [[1]] + fault_told(fault) + [[-1]] + NOTHING_OUT)

    def test_5_cells_go_on_to_8192_and_one_more(self):
        # 1 cell, then 455 by each of 18 applies: 8191.
        wide = many(5, [let(made(1, *[ARG] * 64), num(0))] * 7)
        filling = [apply(1) + CELLS] * 18
        filled = [[1]] + [part for k in range(18) for part in ([1], [1 + 455 * (k + 1)])]
        for last, expected in (
                (made(2), function_out(1, 8192)), (let(made(2), ARG), number_out(0, 1, 8192)),
                (let(made(2), made(2)), fault_told(5)), (made(1, *[ARG] * 64), fault_told(5)),
                (made(3, ARG), fault_told(5))):
            data = code(made(0), (0, cond(ARG, let(wide, SELF), last)), (64, ONE), IDENTITY, (1, ARG))
            self.assertEqual(after_load(data, run(), *filling, apply(0), LOOKS), filled + expected)
        data = code(made(0), (0, cond(ARG, let(wide, SELF), made(2))), (64, ONE), IDENTITY)
        self.assertEqual(
            after_load(data, run(), *filling, apply(0), apply(7), LOOKS, run(), LOOKS),
            filled + [[1]] + number_out(7, 1, 8192) + function_out(0, 1))

    def test_a_number_that_is_out(self):
        self.assertEqual(
            after_load(code(num(9)), run(), apply(1), LOOKS, apply(0, 0), LOOKS),
            [[0], [-1], [0, 9], [0], [0], [-1], [0, 9], [0], [0]])
        self.assertEqual(
            after_load(code(made(0), IDENTITY), run(), apply(0), apply(5), LOOKS),
            [[1], [0], [-1], [0, 0], [1], [1]])

    def test_after_a_fault(self):
        self.assertEqual(after_load(code(WRONG), run(), apply(1), LOOKS), [[2], [-1]] + NOTHING_OUT)

    def test_after_a_load_with_nothing_run_yet(self):
        self.assertEqual(
            after_load(ADDER, apply(1), LOOKS, apply(1, 0), run(0), LOOKS),
            [[-1]] + NOTHING_OUT + [[-1]] + function_out(0, 1))


class Looks(unittest.TestCase):
    def test_asked_twice_they_tell_the_same(self):
        for data, expected in (
                (code(call(made(0), num(9)), IDENTITY), number_out(9, 1, 1)), (ADDER, function_out(0, 1)),
                (code(WRONG), fault_told(2))):
            self.assertEqual(after_load(data, run(), LOOKS, LOOKS, LOOKS), expected + expected[1:] * 2)
            self.assertEqual(
                after_load(data, run(), RESULT, RESULT, CELLS, CELLS, CALLS, CALLS),
                [expected[0]] + [expected[1]] * 2 + [expected[3]] * 2 + [expected[2]] * 2)

    def test_they_change_nothing(self):
        self.assertEqual(
            after_load(ADDER, run(), LOOKS, PROCS, takes(1), LOOKS, apply(3), LOOKS, PROCS, apply(4), LOOKS),
            function_out(0, 1) + [[2], [1]] + function_out(0, 1)[1:] + function_out(1, 3) + [[2]] +
            number_out(7, 1, 3))

    def test_after_a_load(self):
        self.assertEqual(after_load(ADDER, LOOKS), NOTHING_OUT)

    def test_a_number_0_is_out_too(self):
        self.assertEqual(ran(code(num(0))), number_out(0))
        self.assertEqual(after_load(code(made(0), IDENTITY), run(), apply(0), LOOKS), [[1]] + number_out(0, 1, 1))

    def test_programs_asked_of_dont_change_what_is_out(self):
        program = [4, 2, 1, 0, 0, 7, 0, 0, 0]
        asked = [[1, 9] + program, [2, 9] + program, [3, 9] + program, [4, 9, 9] + program + [0], [1, 0], [2, 0],
                 [4, 0, 3, 2, 1, 0, 2, 5, 9]]
        told = after_load(ADDER, run(), apply(40), *asked, LOOKS, apply(2), *asked, LOOKS)
        self.assertEqual(told[9:12], function_out(1, 3)[1:])
        self.assertEqual(told[-3:], number_out(42, 1, 3)[1:])


class Load(unittest.TestCase):
    def test_nothing_is_out_any_more(self):
        for second in (ADDER, code(num(3)), code(WRONG)):
            self.assertEqual(
                after_load(ADDER, run(), apply(1), LOOKS, loading(second), LOOKS, apply(1), LOOKS),
                [[1]] + function_out(1, 3) + [[0]] + NOTHING_OUT + [[-1]] + NOTHING_OUT)

    def test_the_new_code_runs_from_the_beginning(self):
        self.assertEqual(
            after_load(ADDER, run(), apply(1), loading(code(let(made(0), num(3)), IDENTITY)), run(), LOOKS),
            [[1], [1], [0]] + number_out(3, 0, 1))

    def test_a_refused_load_leaves_the_code_and_what_is_out(self):
        for wrong in NO_CODE:
            self.assertEqual(
                after_load(ADDER, loading(wrong), PROCS, run(), loading(wrong), LOOKS, apply(40), loading(wrong),
                           LOOKS, takes(1), apply(2), loading(wrong), LOOKS, run(), LOOKS),
                [[-1], [2], [1], [-1], [1], [0], [1], [1], [-1], [1], [1], [3], [1], [0], [-1], [0, 42], [1], [3]] +
                function_out(0, 1), wrong)

    def test_a_refused_load_leaves_nothing_out_after_a_fault(self):
        self.assertEqual(
            after_load(code(WRONG), run(), loading([]), LOOKS, run(), LOOKS), [[2], [-1]] + NOTHING_OUT + fault_told(2))


if __name__ == "__main__":
    unittest.main()
