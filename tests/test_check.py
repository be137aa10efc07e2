import unittest

from tests.support import add, call, check, compiled, cond, fun, less, let, many, mean, num, rec, sub, takes_of, var

YES = [1]
NO = [0]

SOME = [
    num(0),
    num(4294967295),
    fun(var(0)),
    rec(call(var(1), var(0))),
    call(fun(var(0)), num(7)),
    add(num(1), num(2)),
    sub(num(1), num(2)),
    less(num(1), num(2)),
    cond(num(1), num(2), num(3)),
    let(num(1), var(0)),
    let(fun(add(var(0), num(3))), rec(cond(var(0), call(var(2), var(0)), call(var(1), num(1))))),
]


def of_170_numbers():
    """1,019 bytes, 9 deep."""
    data = many(5, [num(k) for k in range(170)])
    assert len(data) == 1019
    return data


class Forms(unittest.TestCase):
    def test_each_form_is_a_program(self):
        for data in SOME:
            self.assertEqual(check(data), YES, data)

    def test_each_number_byte_may_be_any(self):
        for byte in (0, 1, 9, 10, 127, 128, 255):
            self.assertEqual(check([0, byte, byte, byte, byte]), YES)

    def test_bytes_above_9_are_none(self):
        for byte in range(10, 256):
            self.assertEqual(check([byte]), NO)
            self.assertEqual(check([byte] + num(1) + num(2) + num(3)), NO)
            self.assertEqual(check([byte, 0]), NO)
            self.assertEqual(check(fun([byte, 0])), NO)

    def test_how_many_parts_each_has(self):
        for head, parts in ((2, 1), (3, 1), (4, 2), (5, 2), (6, 2), (7, 2), (8, 3), (9, 2)):
            for given in range(5):
                self.assertEqual(check([head] + num(5) * given), YES if given == parts else NO, (head, given))

    def test_no_bytes_at_all(self):
        self.assertEqual(check([]), NO)

    def test_bytes_that_end_too_early(self):
        for data in SOME:
            for length in range(len(data)):
                self.assertEqual(check(data[:length]), NO, data[:length])

    def test_bytes_behind_the_program(self):
        for data in SOME:
            for more in ([0], [1], [255], num(1), fun(var(0))):
                self.assertEqual(check(data + more), NO, data + more)


class Variables(unittest.TestCase):
    def test_none_without_a_binder(self):
        for k in range(256):
            self.assertEqual(check(var(k)), NO)

    def test_just_as_many_binders_and_one_too_few(self):
        for binders in range(1, 30):
            for head in ([2], [9] + num(1)):
                self.assertEqual(check(head * binders + var(binders - 1)), YES)
                self.assertEqual(check(head * binders + var(binders)), NO)
                self.assertEqual(check(head * binders + var(255)), NO)

    def test_the_two_binders_of_3(self):
        self.assertEqual(check(rec(var(0))), YES)
        self.assertEqual(check(rec(var(1))), YES)
        self.assertEqual(check(rec(var(2))), NO)
        for times in range(1, 32):
            self.assertEqual(check([3] * times + var(2 * times - 1)), YES)
            self.assertEqual(check([3] * times + var(2 * times)), NO)

    def test_in_9_only_b_has_the_binder(self):
        self.assertEqual(check(let(num(1), var(0))), YES)
        self.assertEqual(check(let(num(1), var(1))), NO)
        self.assertEqual(check(let(var(0), num(1))), NO)
        self.assertEqual(check(fun(let(var(0), var(1)))), YES)
        self.assertEqual(check(fun(let(var(1), var(0)))), NO)
        self.assertEqual(check(fun(let(var(0), var(2)))), NO)

    def test_a_binder_ends_where_its_part_ends(self):
        self.assertEqual(check(add(fun(var(0)), var(0))), NO)
        self.assertEqual(check(add(let(num(1), var(0)), var(0))), NO)
        self.assertEqual(check(call(rec(var(1)), var(0))), NO)
        self.assertEqual(check(cond(let(num(1), var(0)), num(1), var(0))), NO)
        self.assertEqual(check(let(let(num(1), var(0)), var(1))), NO)
        self.assertEqual(check(let(fun(var(0)), var(0))), YES)

    def test_the_others_bind_nothing(self):
        for head, parts in ((4, 2), (5, 2), (6, 2), (7, 2), (8, 3)):
            for place in range(parts):
                inner = [var(0) if k == place else num(1) for k in range(parts)]
                data = [head] + sum(inner, [])
                self.assertEqual(check(data), NO, data)
                self.assertEqual(check(fun(data)), YES, data)
                inner[place] = var(1)
                self.assertEqual(check(fun([head] + sum(inner, []))), NO, data)


class Bounds(unittest.TestCase):
    def test_1024_bytes_and_one_more(self):
        most = [2] * 5 + of_170_numbers()
        self.assertEqual(len(most), 1024)
        self.assertEqual(check(most), YES)
        self.assertEqual(check([2] + most), NO)
        self.assertEqual(compiled([2] + most), [-1])
        self.assertEqual(takes_of([2] + most), [-1])
        self.assertEqual(mean(0, [2] + most), [-1])

    def test_32_deep_and_one_more_through_each_part(self):
        for head, parts in ((2, 1), (3, 1), (4, 2), (5, 2), (6, 2), (7, 2), (8, 3), (9, 2)):
            for place in range(parts):
                ahead = [head] + num(1) * place
                behind = num(1) * (parts - 1 - place)
                most = ahead * 31 + num(1) + behind * 31
                self.assertEqual(check(most), YES, (head, place))
                self.assertEqual(check(ahead + most + behind), NO, (head, place))

    def test_a_variable_is_1_deep(self):
        self.assertEqual(check([2] * 31 + var(0)), YES)
        self.assertEqual(check([2] * 32 + var(0)), NO)

    def test_the_deepest_part_counts(self):
        deep = [2] * 30 + num(1)
        for place in range(3):
            parts = [deep if k == place else num(1) for k in range(3)]
            self.assertEqual(check(cond(*parts)), YES)
            parts[place] = [2] + deep
            self.assertEqual(check(cond(*parts)), NO)

    def test_64_functions_and_one_more(self):
        for one in (fun(var(0)), rec(var(1))):
            self.assertEqual(check(many(4, [one] * 64)), YES)
            self.assertEqual(check(many(4, [one] * 65)), NO)
        mixed = [fun(var(0)), rec(var(0))] * 32
        self.assertEqual(check(many(9, mixed)), YES)
        self.assertEqual(check(many(9, mixed + [fun(num(1))])), NO)
        self.assertEqual(check(many(9, mixed + [rec(num(1))])), NO)
        self.assertEqual(check(fun(many(5, mixed))), NO)
        self.assertEqual(check(fun(many(5, mixed[1:]))), YES)

    def test_as_long_and_deep_as_may_be_handed_in(self):
        for head in range(2, 10):
            self.assertEqual(check([head] * 3000), NO)
            self.assertEqual(check([head] * 1000), NO)
        self.assertEqual(check(([9] + num(1)) * 400 + num(1)), NO)
        self.assertEqual(check([0] * 3000), NO)


if __name__ == "__main__":
    unittest.main()
