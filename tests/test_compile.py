import unittest

from tests.support import (
    ARG, REFUSED, SELF, add, call, check, code, compiled, cond, fun, kept, less, let, load, made, many, num,
    procs_after_load, rec, sub, taken, takes_of, var)

NO_PROGRAMS = [
    [], [1, 0], [10, 0], [0, 1, 2, 3], [2], [2, 1, 1], [3, 1, 2], [9, 1, 0, 0, 0, 0, 0, 0],
    num(1) + [0], [2] * 32 + [1, 0], [11, 0, 0],
]


class Code(unittest.TestCase):
    def same(self, program, expected):
        told = compiled(program)
        self.assertEqual(told, [len(expected)] + expected)
        counts = expected_takes(expected)
        self.assertEqual(takes_of(program), [len(counts)] + counts)
        self.assertEqual(procs_after_load(told[1:]), [0, len(counts)])

    def test_a_number(self):
        self.same(num(0), [0, 0, 0, 0, 0, 0])
        self.same(num(0x04030201), [0, 0, 1, 2, 3, 4])
        self.same(num(4294967295), [0, 0, 255, 255, 255, 255])

    def test_what_stays_as_it_is(self):
        self.same(call(num(1), num(2)), code(call(num(1), num(2))))
        self.same(add(num(1), num(2)), code(add(num(1), num(2))))
        self.same(sub(num(1), num(2)), code(sub(num(1), num(2))))
        self.same(less(num(1), num(2)), code(less(num(1), num(2))))
        self.same(cond(num(1), num(2), num(3)), code(cond(num(1), num(2), num(3))))

    def test_the_argument_and_the_running_function(self):
        self.same(fun(var(0)), code(made(0), (0, ARG)))
        self.same(rec(var(0)), code(made(0), (0, ARG)))
        self.same(rec(var(1)), code(made(0), (0, SELF)))
        self.same(rec(call(var(1), var(0))), code(made(0), (0, call(SELF, ARG))))

    def test_a_taken_value(self):
        self.same(fun(fun(var(1))), code(made(0), (0, made(1, ARG)), (1, taken(0))))
        self.same(rec(fun(var(1))), code(made(0), (0, made(1, ARG)), (1, taken(0))))
        self.same(rec(fun(var(2))), code(made(0), (0, made(1, SELF)), (1, taken(0))))
        self.same(fun(rec(var(2))), code(made(0), (0, made(1, ARG)), (1, taken(0))))

    def test_a_kept_value(self):
        self.same(let(num(1), var(0)), code(let(num(1), kept(0))))
        self.same(let(num(1), let(num(2), add(var(0), var(1)))), code(let(num(1), let(num(2), add(kept(0), kept(1))))))
        self.same(let(let(num(1), var(0)), var(0)), code(let(let(num(1), kept(0)), kept(0))))
        self.same(let(num(1), let(var(0), var(0))), code(let(num(1), let(kept(0), kept(0)))))
        # Behind the inner 9's end the outer one is the latest again.
        self.same(let(num(1), add(let(num(2), var(1)), var(0))), code(let(num(1), add(let(num(2), kept(1)), kept(0)))))

    def test_kept_values_in_a_function(self):
        self.same(
            fun(let(add(var(0), num(1)), add(var(0), var(1)))),
            code(made(0), (0, let(add(ARG, num(1)), add(kept(0), ARG)))))
        self.same(
            rec(let(num(1), let(num(2), call(call(var(3), var(2)), call(var(1), var(0)))))),
            code(made(0), (0, let(num(1), let(num(2), call(call(SELF, ARG), call(kept(1), kept(0))))))))

    def test_kept_values_outside_of_a_function_arent_counted_in_it(self):
        self.same(
            let(num(1), let(num(2), fun(let(num(3), add(var(0), add(var(1), add(var(2), var(3)))))))),
            code(
                let(num(1), let(num(2), made(0, kept(0), kept(1)))),
                (2, let(num(3), add(kept(0), add(ARG, add(taken(0), taken(1))))))))

    def test_kept_values_inside_of_a_function_arent_counted_outside(self):
        self.same(
            let(num(1), add(call(fun(let(num(2), var(0))), num(3)), let(num(4), var(1)))),
            code(let(num(1), add(call(made(0), num(3)), let(num(4), kept(1)))), (0, let(num(2), kept(0)))))

    def test_numbered_as_their_bytes_stand(self):
        self.same(
            add(fun(rec(num(1))), add(rec(num(2)), fun(fun(num(3))))),
            code(
                add(made(0), add(made(2), made(3))),
                (0, made(1)), (0, num(1)), (0, num(2)), (0, made(4)), (0, num(3))))
        self.same(
            cond(fun(num(1)), let(fun(num(2)), fun(num(3))), call(fun(num(4)), fun(num(5)))),
            code(
                cond(made(0), let(made(1), made(2)), call(made(3), made(4))),
                (0, num(1)), (0, num(2)), (0, num(3)), (0, num(4)), (0, num(5))))

    def test_taken_in_the_order_in_which_they_first_stand(self):
        order = fun(fun(fun(add(var(1), add(var(2), var(0))))))
        self.same(order, code(
            made(0), (0, made(1, ARG)), (1, made(2, ARG, taken(0))), (2, add(taken(0), add(taken(1), ARG)))))
        other = fun(fun(fun(add(var(2), add(var(1), var(0))))))
        self.same(other, code(
            made(0), (0, made(1, ARG)), (1, made(2, taken(0), ARG)), (2, add(taken(0), add(taken(1), ARG)))))

    def test_each_taken_once(self):
        self.same(
            fun(fun(add(var(1), add(var(1), var(1))))),
            code(made(0), (0, made(1, ARG)), (1, add(taken(0), add(taken(0), taken(0))))))
        # One variable under other numbers: behind one binder more or less.
        self.same(
            fun(fun(add(let(num(1), var(2)), add(var(1), fun(var(2)))))),
            code(
                made(0), (0, made(1, ARG)),
                (1, add(let(num(1), taken(0)), add(taken(0), made(2, taken(0))))), (1, taken(0))))

    def test_one_number_for_other_variables(self):
        # Each `1 1` here is another variable.
        self.same(
            fun(add(fun(var(1)), let(num(5), fun(add(var(1), fun(var(1))))))),
            code(
                made(0),
                (0, add(made(1, ARG), let(num(5), made(2, kept(0))))),
                (1, taken(0)),
                (1, add(taken(0), made(3, ARG))),
                (1, taken(0))))

    def test_through_functions_within_functions(self):
        # The middle functions use nothing themselves, but take along for those inside.
        self.same(
            let(num(9), fun(rec(fun(var(4))))),
            code(let(num(9), made(0, kept(0))), (1, made(1, taken(0))), (1, made(2, taken(0))), (1, taken(0))))
        # An inner function's variables come where it stands among the others.
        self.same(
            let(num(1), let(num(2), let(num(3), fun(add(var(2), add(fun(add(var(2), var(4))), var(3))))))),
            code(
                let(num(1), let(num(2), let(num(3), made(0, kept(1), kept(0), kept(2))))),
                (3, add(taken(0), add(made(1, taken(1), taken(2)), taken(2)))),
                (2, add(taken(0), taken(1)))))

    def test_its_own_are_not_taken(self):
        self.same(fun(call(fun(var(0)), var(0))), code(made(0), (0, call(made(1), ARG)), (0, ARG)))
        self.same(
            rec(call(rec(call(var(1), var(0))), call(var(1), var(0)))),
            code(made(0), (0, call(made(1), call(SELF, ARG))), (0, call(SELF, ARG))))
        self.same(fun(let(num(1), var(0))), code(made(0), (0, let(num(1), kept(0)))))

    def test_the_function_itself_taken_along(self):
        self.same(
            rec(fun(call(var(2), add(var(1), var(0))))),
            code(made(0), (0, made(1, SELF, ARG)), (2, call(taken(0), add(taken(1), ARG)))))
        self.same(
            rec(rec(call(var(3), call(var(1), var(2))))),
            code(made(0), (0, made(1, SELF, ARG)), (2, call(taken(0), call(SELF, taken(1))))))

    def test_kept_values_named_where_the_function_stands(self):
        self.same(
            fun(let(num(1), let(num(2), fun(add(var(1), add(var(2), var(3))))))),
            code(
                made(0),
                (0, let(num(1), let(num(2), made(1, kept(0), kept(1), ARG)))),
                (3, add(taken(0), add(taken(1), taken(2))))))

    def test_a_of_9_has_not_its_binder(self):
        self.same(
            fun(let(fun(var(1)), call(var(0), var(1)))),
            code(made(0), (0, let(made(1, ARG), call(kept(0), ARG))), (1, taken(0))))

    def test_an_unused_kept_value_stays(self):
        self.same(fun(let(var(0), num(7))), code(made(0), (0, let(ARG, num(7)))))


class Bounds(unittest.TestCase):
    def test_no_program_has_no_code(self):
        for data in NO_PROGRAMS:
            self.assertEqual(check(data), [0])
            self.assertEqual(compiled(data), REFUSED)
            self.assertEqual(takes_of(data), REFUSED)

    def test_64_procedures(self):
        program = many(4, [fun(var(0))] * 64)
        self.assertEqual(takes_of(program), [64] + [0] * 64)
        self.assertEqual(procs_after_load(compiled(program)[1:]), [0, 64])

    def test_as_many_taken_as_can_be(self):
        # 27 times 3, and 54 variables within five rows of 8.
        leaves = [var(k) for k in range(54)] + [num(0)]
        while len(leaves) > 1:
            leaves = [cond(*leaves[k:k + 3]) for k in range(0, len(leaves) - 2, 3)] + leaves[len(leaves) // 3 * 3:]
        program = [3] * 27 + leaves[0]
        self.assertEqual(check(program), [1])
        self.assertEqual(takes_of(program), [27] + [2 * k for k in range(27)])
        self.assertEqual(load(compiled(program)[1:]), [0])

    def test_code_that_grows_the_most_is_still_code(self):
        # Many functions where many variables are around, each of which takes all of them along.
        outer = [3] * 19
        user = fun(fun(fun(many(5, [var(k) for k in range(3, 41)]))))
        program = outer + many(5, [user] * 7)
        self.assertEqual(check(program), [1])
        self.assertGreater(compiled(program)[0], 2000)
        self.assertEqual(procs_after_load(compiled(program)[1:]), [0, 40])

    def test_1024_bytes(self):
        program = [2] * 5 + many(5, [num(k) for k in range(170)])
        told = compiled(program)
        self.assertEqual(told[0], len(told) - 1)
        self.assertEqual(told[0], 1019 + 1 + 5 * 4)
        self.assertEqual(load(told[1:]), [0])


def expected_takes(data):
    """How many values each procedure takes along, told by code that is right."""
    place = skipped(data, 1)
    counts = []
    while place < len(data):
        counts.append(data[place])
        place = skipped(data, place + 1)
    return counts


def skipped(data, place):
    parts = 1
    while parts:
        parts -= 1
        head = data[place]
        if head == 0:
            place += 5
        elif head in (1, 2, 3, 10):
            place += 2
        elif head == 11:
            place += 3 + 2 * data[place + 2]
        else:
            place += 1
            parts += 3 if head == 8 else 2
    return place


if __name__ == "__main__":
    unittest.main()
