import unittest

from tests.support import REFUSED, add, call, cond, fun, less, let, many, mean, num, rec, sub, var

TOP = 4294967295
LOWEST = 2147483648
HIGHEST = 2147483647

IDENTITY = fun(var(0))
WRONG = call(num(1), num(2))
ONE_CALL = call(IDENTITY, num(1))

# 128 calls within one another if it's called with 127: it calls itself down to 0.
DOWN = rec(cond(var(0), call(var(1), sub(var(0), num(1))), num(5)))


def number(value, calls=0, cells=0):
    return [1, 0, value, calls, cells]


def function(calls, cells):
    return [1, 1, 0, calls, cells]


def fault(which):
    return [1, which, 0, 0, 0]


class Reckoning(unittest.TestCase):
    def test_numbers(self):
        for value in (0, 1, 255, 256, 0x04030201, LOWEST, TOP):
            self.assertEqual(mean(0, num(value)), number(value))

    def test_sums_modulo_2_to_32(self):
        for a, b, expected in (
                (1, 2, 3), (TOP, 1, 0), (TOP, TOP, TOP - 1), (LOWEST, LOWEST, 0), (HIGHEST, 1, LOWEST), (TOP, 0, TOP)):
            self.assertEqual(mean(0, add(num(a), num(b))), number(expected))

    def test_differences_modulo_2_to_32(self):
        for a, b, expected in (
                (3, 2, 1), (2, 3, TOP), (0, 1, TOP), (0, TOP, 1), (LOWEST, 1, HIGHEST), (0, LOWEST, LOWEST), (7, 7, 0)):
            self.assertEqual(mean(0, sub(num(a), num(b))), number(expected))

    def test_less_with_a_sign(self):
        for a, b, expected in (
                (1, 2, 1), (2, 1, 0), (2, 2, 0), (TOP, 0, 1), (0, TOP, 0), (LOWEST, HIGHEST, 1), (HIGHEST, LOWEST, 0),
                (LOWEST, LOWEST + 1, 1), (LOWEST + 1, LOWEST, 0), (HIGHEST - 1, HIGHEST, 1), (HIGHEST, HIGHEST - 1, 0),
                (LOWEST, TOP, 1), (TOP, LOWEST, 0), (LOWEST, LOWEST, 0), (HIGHEST, HIGHEST, 0), (LOWEST, 0, 1),
                (0, HIGHEST, 1), (HIGHEST, 0, 0), (TOP - 1, TOP, 1)):
            self.assertEqual(mean(0, less(num(a), num(b))), number(expected), (a, b))

    def test_choice(self):
        for value in (1, 2, 256, 65536, 1 << 24, LOWEST, TOP):
            self.assertEqual(mean(0, cond(num(value), num(7), num(8))), number(7))
        self.assertEqual(mean(0, cond(num(0), num(7), num(8))), number(8))

    def test_the_other_part_isnt_worked_out(self):
        self.assertEqual(mean(0, cond(num(1), num(7), WRONG)), number(7))
        self.assertEqual(mean(0, cond(num(0), WRONG, num(8))), number(8))
        self.assertEqual(mean(0, cond(num(1), num(7), ONE_CALL)), number(7))
        self.assertEqual(mean(0, cond(num(0), ONE_CALL, num(8))), number(8))
        self.assertEqual(mean(0, cond(num(0), IDENTITY, num(8))), number(8))
        self.assertEqual(mean(9, cond(num(0), ONE_CALL, add(ONE_CALL, num(8)))), number(9, 1, 1))

    def test_choices_within_choices(self):
        nested = fun(cond(var(0), cond(sub(var(0), num(1)), num(10), num(11)), cond(num(0), num(12), num(13))))
        for x, expected in ((0, 13), (1, 11), (2, 10)):
            self.assertEqual(mean(1, call(nested, num(x))), number(expected, 1, 1))

    def test_kept_values(self):
        self.assertEqual(mean(0, let(num(3), add(var(0), var(0)))), number(6))
        self.assertEqual(mean(0, let(num(3), let(num(1), sub(var(1), var(0))))), number(2))
        self.assertEqual(mean(0, let(num(3), let(var(0), sub(var(1), var(0))))), number(0))
        self.assertEqual(mean(0, let(num(3), sub(let(num(10), var(0)), var(0)))), number(7))
        self.assertEqual(mean(0, sub(let(num(9), var(0)), let(num(4), var(0)))), number(5))


class Functions(unittest.TestCase):
    def test_a_parameter(self):
        self.assertEqual(mean(1, call(fun(add(var(0), num(1))), num(41))), number(42, 1, 1))

    def test_variables_outward(self):
        minus = fun(fun(sub(var(1), var(0))))
        self.assertEqual(mean(2, call(call(minus, num(9)), num(4))), number(5, 2, 3))

    def test_a_function_knows_what_was_there_when_it_was_made(self):
        program = let(num(5), let(fun(add(var(0), var(1))), let(num(100), call(var(1), var(0)))))
        self.assertEqual(mean(1, program), number(105, 1, 2))
        # What is kept behind its making doesn't reach it.
        program = let(let(num(5), fun(var(1))), let(num(6), let(num(7), call(var(2), num(0)))))
        self.assertEqual(mean(1, program), number(5, 1, 2))

    def test_the_same_function_made_twice_has_other_values(self):
        program = let(
            fun(fun(var(1))),
            let(call(var(0), num(30)), let(call(var(1), num(4)), sub(call(var(1), num(0)), call(var(0), num(0))))))
        self.assertEqual(mean(4, program), number(26, 4, 5))

    def test_a_function_that_calls_itself(self):
        total = rec(cond(var(0), add(var(0), call(var(1), sub(var(0), num(1)))), num(0)))
        self.assertEqual(mean(2000, call(total, num(10))), number(55, 11, 1))

    def test_the_two_binders_of_3(self):
        self.assertEqual(mean(9, call(rec(var(0)), num(3))), number(3, 1, 1))
        self.assertEqual(mean(9, call(rec(var(1)), num(3))), function(1, 1))
        # Itself, called with the parameter, is the very same function.
        self.assertEqual(
            mean(9, let(rec(cond(var(0), var(1), num(6))), call(call(var(0), num(1)), num(0)))), number(6, 2, 1))

    def test_kept_values_in_a_function_called_again(self):
        fibonacci = rec(cond(
            less(var(0), num(2)), var(0),
            let(call(var(1), sub(var(0), num(1))), add(var(0), call(var(2), sub(var(1), num(2)))))))
        self.assertEqual(mean(2000, call(fibonacci, num(10))), number(55, 177, 1))

    def test_functions_given_and_given_back(self):
        twice = fun(fun(call(var(1), call(var(1), var(0)))))
        self.assertEqual(mean(4, call(call(twice, fun(add(var(0), num(3)))), num(1))), number(7, 4, 4))

    def test_a_function_comes_out(self):
        self.assertEqual(mean(0, IDENTITY), function(0, 1))
        self.assertEqual(mean(0, rec(var(1))), function(0, 1))
        self.assertEqual(mean(1, call(fun(fun(var(1))), num(1))), function(1, 3))


class Cells(unittest.TestCase):
    def test_one_for_each_different_variable_used_and_not_bound(self):
        for body, cells in (
                (num(1), 1), (var(0), 1), (var(1), 2), (var(2), 2), (add(var(1), var(1)), 2), (add(var(1), var(2)), 3),
                (add(var(2), add(var(1), var(2))), 3), (let(var(1), add(var(0), var(2))), 2),
                (let(num(1), var(0)), 1), (let(num(1), var(1)), 1), (fun(var(0)), 1), (fun(var(1)), 1),
                (fun(var(2)), 2), (rec(var(1)), 1), (rec(var(2)), 1), (rec(add(var(3), var(4))), 3),
                (fun(add(fun(var(4)), var(3))), 2), (fun(add(fun(var(4)), var(2))), 3),
                (cond(num(1), num(2), var(2)), 2)):
            self.assertEqual(mean(0, let(num(1), let(num(2), fun(body)))), function(0, cells), body)

    def test_without_its_own_two(self):
        for body, cells in ((var(0), 1), (var(1), 1), (add(var(0), var(1)), 1), (var(2), 2), (add(var(2), var(3)), 3)):
            self.assertEqual(mean(0, let(num(1), let(num(2), rec(body)))), function(0, cells), body)

    def test_each_making_counts(self):
        once = let(fun(fun(var(1))), add(num(1), let(call(var(0), num(1)), num(2))))
        self.assertEqual(mean(3, once), number(3, 1, 3))
        often = rec(cond(var(0), let(fun(var(1)), call(var(2), sub(var(1), num(1)))), num(0)))
        self.assertEqual(mean(2000, call(often, num(20))), number(0, 21, 41))


class Order(unittest.TestCase):
    """With no call allowed ONE_CALL is fault 3 and WRONG fault 2: the earlier one is told."""

    def both_ways(self, join):
        self.assertEqual(mean(0, join(WRONG, ONE_CALL)), fault(2))
        self.assertEqual(mean(0, join(ONE_CALL, WRONG)), fault(3))

    def test_from_left_to_right(self):
        for join in (call, add, sub, less, let):
            self.both_ways(join)
        self.both_ways(lambda a, b: cond(a, b, b))

    def test_a_call_looks_at_f_behind_a(self):
        self.assertEqual(mean(0, call(num(1), ONE_CALL)), fault(3))

    def test_both_parts_are_worked_out_before_either_is_looked_at(self):
        for join in (add, sub, less):
            self.assertEqual(mean(0, join(IDENTITY, ONE_CALL)), fault(3))
            self.assertEqual(mean(0, join(ONE_CALL, IDENTITY)), fault(3))

    def test_the_first_of_a_choice_is_looked_at_before_the_others(self):
        self.assertEqual(mean(0, cond(IDENTITY, ONE_CALL, ONE_CALL)), fault(2))


class Faults(unittest.TestCase):
    def test_2_a_number_called(self):
        self.assertEqual(mean(5, call(num(1), num(2))), fault(2))
        self.assertEqual(mean(5, call(num(0), IDENTITY)), fault(2))
        self.assertEqual(mean(5, call(ONE_CALL, num(2))), fault(2))

    def test_2_a_function_where_a_number_must_stand(self):
        for join in (add, sub, less):
            self.assertEqual(mean(5, join(IDENTITY, num(1))), fault(2))
            self.assertEqual(mean(5, join(num(1), IDENTITY)), fault(2))
            self.assertEqual(mean(5, join(IDENTITY, IDENTITY)), fault(2))
        self.assertEqual(mean(5, cond(IDENTITY, num(1), num(2))), fault(2))

    def test_functions_may_stand_where_anything_may(self):
        self.assertEqual(mean(5, cond(num(1), IDENTITY, num(2))), function(0, 1))
        self.assertEqual(mean(5, let(IDENTITY, var(0))), function(0, 1))
        self.assertEqual(mean(5, call(IDENTITY, rec(num(0)))), function(1, 2))

    def test_3_calls_allowed(self):
        self.assertEqual(mean(0, num(3)), number(3))
        self.assertEqual(mean(0, ONE_CALL), fault(3))
        self.assertEqual(mean(1, ONE_CALL), number(1, 1, 1))
        self.assertEqual(mean(1, add(ONE_CALL, ONE_CALL)), fault(3))
        self.assertEqual(mean(2, add(ONE_CALL, ONE_CALL)), number(2, 2, 2))
        self.assertEqual(mean(20, call(DOWN, num(20))), fault(3))
        self.assertEqual(mean(21, call(DOWN, num(20))), number(5, 21, 1))

    def test_3_all_of_2000_calls(self):
        # 2 ^ (n + 1) - 1 calls.
        double = rec(cond(var(0), let(sub(var(0), num(1)), add(call(var(2), var(0)), call(var(2), var(0)))), num(1)))
        self.assertEqual(mean(2000, call(double, num(9))), number(512, 1023, 1))
        self.assertEqual(mean(1022, call(double, num(9))), fault(3))
        self.assertEqual(mean(2000, call(double, num(10))), fault(3))
        calls = [call(var(0), num(127))] * 15
        self.assertEqual(mean(2000, let(DOWN, many(5, calls + [call(var(0), num(79))]))), number(80, 2000, 1))
        self.assertEqual(mean(1999, let(DOWN, many(5, calls + [call(var(0), num(79))]))), fault(3))
        self.assertEqual(mean(2000, let(DOWN, many(5, calls + [call(var(0), num(80))]))), fault(3))

    def test_4_128_calls_within_one_another(self):
        self.assertEqual(mean(2000, call(DOWN, num(127))), number(5, 128, 1))
        self.assertEqual(mean(2000, call(DOWN, num(128))), fault(4))
        self.assertEqual(mean(129, call(DOWN, num(128))), fault(4))

    def test_4_calls_one_behind_another_are_not_within(self):
        twice = let(DOWN, add(call(var(0), num(127)), call(var(0), num(127))))
        self.assertEqual(mean(2000, twice), number(10, 256, 1))
        self.assertEqual(mean(2000, let(DOWN, call(fun(call(var(1), var(0))), num(126)))), number(5, 128, 3))
        self.assertEqual(mean(2000, let(DOWN, call(fun(call(var(1), var(0))), num(127)))), fault(4))
        # What is worked out for f or a has ended before the call.
        self.assertEqual(mean(2000, let(DOWN, call(var(0), call(var(0), num(127))))), number(5, 134, 1))

    def test_there_are_no_tail_calls(self):
        last = rec(cond(var(0), call(var(1), sub(var(0), num(1))), num(5)))
        self.assertEqual(mean(2000, call(last, num(200))), fault(4))

    def test_at_a_call_2_then_3_then_4(self):
        self.assertEqual(mean(0, call(num(1), num(1))), fault(2))
        self.assertEqual(mean(128, call(DOWN, num(128))), fault(3))
        self.assertEqual(mean(129, call(DOWN, num(128))), fault(4))
        # At the bottom, inside 128 calls and with none left, a number is called.
        bottom = rec(cond(var(0), call(var(1), sub(var(0), num(1))), WRONG))
        self.assertEqual(mean(2000, call(bottom, num(127))), fault(2))
        self.assertEqual(mean(128, call(bottom, num(127))), fault(2))
        self.assertEqual(mean(1, call(fun(call(var(0), num(1))), num(1))), fault(2))


class CellsToTheEnd(unittest.TestCase):
    """Of 511 calls each makes 16 functions: with the first one that's 8,177 cells."""

    def filling(self, last):
        again = let(sub(var(16), num(1)), add(call(var(18), var(0)), call(var(18), var(0))))
        return let(rec(cond(var(0), self.funs(16, again), num(1))), let(call(var(0), num(9)), last))

    def test_how_many_there_are(self):
        self.assertEqual(mean(2000, self.filling(num(3))), number(3, 1023, 8177))

    def test_8192_cells(self):
        self.assertEqual(mean(2000, self.filling(self.funs(15, num(4)))), number(4, 1023, 8192))

    def test_one_more(self):
        self.assertEqual(mean(2000, self.filling(self.funs(16, num(4)))), fault(5))

    def test_what_a_function_takes_along_counts(self):
        two = let(num(1), fun(var(1)))
        self.assertEqual(mean(2000, self.filling(self.funs(13, two))), function(1023, 8192))
        self.assertEqual(mean(2000, self.filling(self.funs(14, two))), fault(5))
        self.assertEqual(mean(2000, self.filling(self.funs(14, fun(num(1))))), function(1023, 8192))

    def test_from_end_to_end(self):
        full = self.filling(self.funs(13, fun(cond(var(0), fun(num(1)), num(7)))))
        told = mean(2000, full, [1, 1])
        self.assertEqual(told, [2, 1, 0, 1023, 8191, 1, 0, 1, 8192])
        full = self.filling(self.funs(14, fun(cond(var(0), fun(num(1)), num(7)))))
        self.assertEqual(mean(2000, full, [1, 1]), [2, 1, 0, 1023, 8192, 5, 0, 0, 0])
        self.assertEqual(mean(2000, full, [0, 1]), [2, 1, 0, 1023, 8192, 0, 7, 1, 8192])

    def funs(self, times, last):
        for _ in range(times):
            last = let(fun(num(0)), last)
        return last


class Ends(unittest.TestCase):
    def test_none_called_without_numbers(self):
        self.assertEqual(mean(0, IDENTITY, []), function(0, 1))

    def test_what_comes_of_it_called(self):
        self.assertEqual(mean(0, IDENTITY, [7, 1]), [2, 1, 0, 0, 1, 0, 7, 1, 1])
        self.assertEqual(mean(0, IDENTITY, [TOP, 1]), [2, 1, 0, 0, 1, 0, TOP, 1, 1])

    def test_this_call_counts_too(self):
        self.assertEqual(mean(0, IDENTITY, [7, 0]), [2, 1, 0, 0, 1, 3, 0, 0, 0])
        self.assertEqual(mean(0, DOWN, [7, 8]), [2, 1, 0, 0, 1, 0, 5, 8, 1])
        self.assertEqual(mean(0, DOWN, [7, 7]), [2, 1, 0, 0, 1, 3, 0, 0, 0])
        self.assertEqual(mean(0, DOWN, [127, 2000]), [2, 1, 0, 0, 1, 0, 5, 128, 1])
        self.assertEqual(mean(0, DOWN, [128, 2000]), [2, 1, 0, 0, 1, 4, 0, 0, 0])
        self.assertEqual(mean(0, DOWN, [128, 128]), [2, 1, 0, 0, 1, 3, 0, 0, 0])

    def test_none_after_a_number(self):
        self.assertEqual(mean(0, num(4), [1, 1, 2, 2]), number(4))
        self.assertEqual(mean(0, IDENTITY, [7, 1, 8, 1, 9, 1]), [2, 1, 0, 0, 1, 0, 7, 1, 1])

    def test_none_after_a_fault(self):
        self.assertEqual(mean(0, ONE_CALL, [1, 1, 2, 2]), fault(3))
        self.assertEqual(mean(5, fun(call(var(0), num(1))), [7, 9, 8, 9]), [2, 1, 0, 0, 1, 2, 0, 0, 0])

    def test_calls_are_counted_anew_and_cells_go_on(self):
        program = call(fun(fun(fun(add(add(var(2), var(1)), var(0))))), num(100))
        self.assertEqual(mean(1, program, [20, 1, 3, 1]), [3, 1, 0, 1, 3, 1, 0, 1, 6, 0, 123, 1, 6])
        self.assertEqual(mean(9, program, [20, 1]), [2, 1, 0, 1, 3, 1, 0, 1, 6])
        self.assertEqual(mean(9, program, [20, 2000, 3, 0]), [3, 1, 0, 1, 3, 1, 0, 1, 6, 3, 0, 0, 0])

    def test_eight_times(self):
        again = rec(let(fun(num(1)), var(2)))
        numbers = [1, 1] * 8
        expected = [9, 1, 0, 0, 1]
        for k in range(8):
            expected += [1, 0, 1, 2 + k]
        self.assertEqual(mean(0, again, numbers), expected)

    def test_the_last_of_eight(self):
        count = rec(cond(less(var(0), num(8)), var(1), var(0)))
        numbers = []
        for x in range(1, 9):
            numbers += [x, 1]
        expected = [9] + [1, 0, 0, 1] + [1, 0, 1, 1] * 7 + [0, 8, 1, 1]
        self.assertEqual(mean(0, count, numbers), expected)


class Refused(unittest.TestCase):
    def test_no_program(self):
        for data in ([], [1, 0], [10], num(1) + [0], [2], fun(var(1)), [2] * 32 + var(0)):
            self.assertEqual(mean(0, data), REFUSED)
            self.assertEqual(mean(2000, data, [1, 2000] * 8), REFUSED)


class Deep(unittest.TestCase):
    def test_128_calls_each_within_as_many_nodes_as_can_be(self):
        body = call(var(1), sub(var(0), num(1)))
        for _ in range(25):
            body = add(num(1), body)
        program = rec(cond(var(0), body, num(0)))
        self.assertEqual(mean(2000, call(program, num(127))), number(25 * 127, 128, 1))

    def test_functions_that_know_functions_one_after_another(self):
        # Each call gives back a function that knows the one before.
        grow = rec(fun(call(var(2), var(1))))
        told = mean(0, grow, [1, 2000] * 8)
        self.assertEqual(told[0], 9)
        chain = let(rec(cond(
            var(0), let(call(var(1), sub(var(0), num(1))), fun(call(var(1), add(var(0), num(1))))), fun(var(0)))),
            call(call(var(0), num(100)), num(0)))
        self.assertEqual(mean(2000, chain), number(100, 202, 202))


if __name__ == "__main__":
    unittest.main()
