import os
import subprocess
import sys
import unittest

from closurize.machine import answers
from tests.support import add, call, code, fun, let, made, num, rec, row, var

ADDER = fun(fun(add(var(1), var(0))))
MADE = code(made(0), (0, made(1, [1, 0])), (1, add([2, 0], [1, 0])))

# Each call with its answer.
CALLS = [
    ([1] + row(ADDER), [1]),
    ([1] + row([]), [0]),
    ([2] + row(ADDER), [len(MADE)] + MADE),
    ([2] + row([1, 0]), [-1]),
    ([3] + row(ADDER), [2, 0, 1]),
    ([3] + row(num(1)), [0]),
    ([3] + row([255]), [-1]),
    ([4, 0] + row(ADDER) + row([40, 1, 2, 1]), [3, 1, 0, 0, 1, 1, 0, 1, 3, 0, 42, 1, 3]),
    ([4, 2000] + row(num(4294967295)) + row([]), [1, 0, 4294967295, 0, 0]),
    ([4, 1] + row(call(num(1), num(1))) + row([5, 5]), [1, 2, 0, 0, 0]),
    ([4, 7] + row([2]) + row([1, 2, 3, 4]), [-1]),
    ([6], [-1]),
    ([5] + row(MADE), [0]),
    ([6], [2]),
    ([5] + row([9, 9, 9]), [-1]),
    ([6], [2]),
    ([7, 0], [0]),
    ([7, 1], [1]),
    ([7, 2], [-1]),
    ([7, 4294967295], [-1]),
    ([10], [-1]),
    ([11], [-1]),
    ([12], [-1]),
    ([9, 5, 2000], [-1]),
    ([8, 0], [1]),
    ([10], [1]),
    ([11], [0]),
    ([12], [1]),
    ([9, 40, 1], [1]),
    ([10], [1]),
    ([11], [1]),
    ([12], [3]),
    ([5] + row([]), [-1]),
    ([9, 4294967295, 2000], [0]),
    ([10], [0, 39]),
    ([11], [1]),
    ([12], [3]),
    ([9, 1, 1], [-1]),
    ([10], [0, 39]),
    ([8, 2000], [1]),
    ([9, 0, 0], [3]),
    ([10], [-1]),
    ([11], [-1]),
    ([12], [-1]),
    ([8, 0], [1]),
    ([1] + row(ADDER), [1]),
    ([2] + row(num(1)), [6, 0, 0, 1, 0, 0, 0]),
    ([3] + row(ADDER), [2, 0, 1]),
    ([4, 0] + row(num(8)) + row([]), [1, 0, 8, 0, 0]),
    ([12], [1]),
    ([5] + row(code(num(1))), [0]),
    ([6], [0]),
    ([7, 0], [-1]),
    ([10], [-1]),
    ([11], [-1]),
    ([12], [-1]),
    ([8, 0], [0]),
    ([10], [0, 1]),
    ([11], [0]),
    ([12], [0]),
]


class Frozen(list):
    """A list that can't be changed, not for a while either."""

    def refuse(self, *given):
        raise AssertionError("what was handed in was changed")

    __setitem__ = __delitem__ = __iadd__ = __imul__ = refuse
    append = extend = insert = pop = remove = clear = sort = reverse = refuse


class Lists(unittest.TestCase):
    def test_all_twelve_are_among_60_calls(self):
        self.assertEqual(len(CALLS), 60)
        self.assertEqual({given[0] for given, _ in CALLS}, set(range(1, 13)))

    def test_each_call_has_its_answer_behind_how_many_numbers_it_has(self):
        asked = []
        expected = []
        for given, told in CALLS:
            asked += given
            expected += row(told)
            self.assertEqual(answers(asked), expected)

    def test_whole_numbers_in_a_list(self):
        told = answers(sum([given for given, _ in CALLS], []))
        self.assertIs(type(told), list)
        for number in told:
            self.assertIs(type(number), int)

    def test_60_calls(self):
        for call_number in (6, 10, 11, 12):
            self.assertEqual(answers([call_number] * 60), [1, -1] * 60)
        self.assertEqual(answers([5] + row(MADE) + [8, 9] * 59), [1, 0] + [1, 1] * 59)
        self.assertEqual(answers(([1] + row(ADDER)) * 60), [1, 1] * 60)

    def test_30000_numbers(self):
        longest = [1] + row([0] * 2998)
        self.assertEqual(len(longest * 10), 30000)
        self.assertEqual(answers(longest * 10), [1, 0] * 10)

    def test_code_loaded_is_there_for_later_calls(self):
        self.assertEqual(
            answers([5] + row(MADE) + [1] + row(ADDER) + [4, 0] + row(num(7)) + row([]) + [6]),
            [1, 0, 1, 1, 5, 1, 0, 7, 0, 0, 1, 2])

    def test_programs_asked_of_dont_change_the_code(self):
        for given, _ in CALLS[:11]:
            self.assertEqual(answers([5] + row(MADE) + given + [6])[-2:], [1, 2])


class Nothing(unittest.TestCase):
    def test_what_is_handed_in_is_unchanged(self):
        asked = sum([given for given, _ in CALLS], [])
        before = list(asked)
        answers(asked)
        self.assertEqual(asked, before)

    def test_what_is_handed_in_is_not_changed_for_a_while_either(self):
        asked = Frozen(sum([given for given, _ in CALLS], []))
        self.assertEqual(answers(asked), sum([row(told) for _, told in CALLS], []))

    def test_the_same_list_is_answered_alike(self):
        asked = sum([given for given, _ in CALLS], [])
        first = answers(asked)
        self.assertEqual(answers(asked), first)
        self.assertEqual(answers(list(asked)), first)

    def test_nothing_is_kept_from_one_time_to_the_next(self):
        answers([5] + row(MADE) + [8, 0])
        for asked in ([6], [7, 0], [8, 0], [9, 1, 1], [10], [11], [12]):
            self.assertEqual(answers(asked), [1, -1])
        answers([5] + row(MADE) + [8, 0, 9, 4, 1])
        self.assertEqual(answers([5] + row(MADE) + [10, 12, 8, 0, 12]), [1, 0, 1, -1, 1, -1, 1, 1, 1, 1])

    def test_what_was_given_back_may_be_changed(self):
        first = answers([2] + row(ADDER))
        expected = list(first)
        first.clear()
        self.assertEqual(answers([2] + row(ADDER)), expected)

    def test_it_prints_and_imports_nothing(self):
        script = (
            "import sys; from closurize.machine import answers; before = set(sys.modules);"
            "answers([1, 0, 6, 4, 5, 3, 2, 1, 0, 2, 1, 1, 5, 7, 1, 11, 0, 0, 0, 1, 0, 8, 0, 9, 1, 1, 10, 11, 12]);"
            "assert set(sys.modules) == before")
        root = os.path.dirname(os.path.dirname(os.path.abspath(__file__)))
        done = subprocess.run([sys.executable, "-B", "-c", script], cwd=root, capture_output=True, text=True)
        self.assertEqual((done.returncode, done.stdout, done.stderr), (0, "", ""))


class Depth(unittest.TestCase):
    def test_answered_with_few_of_pythons_calls_left(self):
        deepest = rec([8] + var(0) + call(var(1), [6] + var(0) + num(1)) + num(9))
        asked = [4, 2000] + row(call(deepest, num(127))) + row([])
        asked += [1] + row([2] * 1024) + [5] + row([0] + [9] * 8000)
        asked += [2] + row(let(num(1), [3] * 30 + var(60)))
        again = ([5] + num(1)) * 60 + call([3, 0], [6, 1, 0] + num(1))
        asked += [5] + row(code(made(0), (0, [8, 1, 0] + again + num(0)))) + [8, 0, 9, 127, 2000, 10]
        expected = answers(asked)
        self.assertEqual(expected[-7:], [1, 1, 1, 0, 2, 0, 60 * 127])

        def further(left):
            return further(left - 1) if left else answers(asked)

        before = sys.getrecursionlimit()
        sys.setrecursionlimit(1000)
        try:
            told = further(800)
        finally:
            sys.setrecursionlimit(before)
        self.assertEqual(told, expected)


if __name__ == "__main__":
    unittest.main()
