"""What `evaluate` gives for every form; the work and the traps have files of their own."""

import copy
import unittest

from building import (HIGH, LOW, NUM, NUMS, ONE, POINT, ROWS, TRAP, TWO, V, X, Y, both, function, num, op, seq, var)
from flatsheaves.kinds import check
from flatsheaves.plain import evaluate

FIRST = ("first", V)
SECOND = ("second", V)


class EvaluateCase(unittest.TestCase):
    def result(self, given, result, body, value):
        return self.result_in([function("f", given, result, body)], "f", value)

    def result_in(self, program, name, value):
        check(program)
        before = copy.deepcopy((program, value))
        answer = evaluate(program, name, value)
        self.assertEqual((program, value), before)
        self.assertIs(type(answer), tuple)
        result, work = answer
        self.assertIs(type(work), int)
        return result

    def gives(self, given, result, body, *cases):
        for value, expected in cases:
            self.assertEqual(self.result(given, result, body, value), expected, (body, value))


class Forms(EvaluateCase):
    def test_num(self):
        for n in (0, 7, -7, LOW, HIGH):
            self.gives(NUM, NUM, num(n), (3, n))

    def test_var(self):
        self.gives(NUM, NUM, V, (0, 0), (-5, -5), (LOW, LOW), (HIGH, HIGH))
        self.gives(ROWS, ROWS, V, ([], []), ([[1, 2], [], [3]], [[1, 2], [], [3]]))
        self.gives(both(NUMS, POINT), both(NUMS, POINT), V, (([4], (5, 6)), ([4], (5, 6))))

    def test_let(self):
        self.gives(NUM, NUM, ("let", "x", op("+", V, ONE), op("*", X, X)), (3, 16), (-1, 0))
        self.gives(NUMS, NUM, ("let", "x", ("len", V), ("let", "y", ("sum", V), op("-", X, Y))), ([5, 6], -9))

    def test_if(self):
        body = ("if", V, num(10), num(20))
        self.gives(NUM, NUM, body, (0, 20), (1, 10), (-1, 10), (LOW, 10), (HIGH, 10))
        nested = ("if", op("<", V, num(0)), ("if", op("<", V, num(-9)), num(1), TWO), ("if", V, num(3), num(4)))
        self.gives(NUM, NUM, nested, (-10, 1), (-1, 2), (5, 3), (0, 4))
        self.gives(both(NUM, ROWS), ROWS, ("if", FIRST, SECOND, ("append", SECOND, SECOND)),
                   ((1, [[1], []]), [[1], []]), ((0, [[1], []]), [[1], [], [1], []]))

    def test_op(self):
        cases = [("+", 5), ("-", -9), ("*", -14), ("/", -1), ("mod", 5), ("min", -2), ("max", 7), ("<", 1), ("=", 0)]
        for sign, expected in cases:
            self.gives(POINT, NUM, op(sign, FIRST, SECOND), ((-2, 7), expected))
        self.gives(POINT, NUM, op("-", FIRST, SECOND), ((2, 9), -7), ((9, 2), 7))
        self.gives(POINT, NUM, op("/", FIRST, SECOND), ((7, 2), 3), ((-7, 2), -4), ((7, -2), -4), ((-7, -2), 3))
        self.gives(POINT, NUM, op("mod", FIRST, SECOND), ((7, 2), 1), ((-7, 2), 1), ((7, -2), -1), ((-7, -2), -1))
        self.gives(POINT, NUM, op("<", FIRST, SECOND), ((1, 1), 0), ((2, 1), 0), ((LOW, HIGH), 1))
        self.gives(POINT, NUM, op("=", FIRST, SECOND), ((1, 1), 1), ((LOW, HIGH), 0))

    def test_op_is_wrapped(self):
        self.gives(POINT, NUM, op("+", FIRST, SECOND),
                   ((HIGH, 1), LOW), ((HIGH, HIGH), -2), ((LOW, -1), HIGH), ((LOW, LOW), 0))
        self.gives(POINT, NUM, op("-", FIRST, SECOND), ((LOW, 1), HIGH), ((HIGH, -1), LOW), ((0, LOW), LOW))
        self.gives(POINT, NUM, op("*", FIRST, SECOND),
                   ((HIGH, HIGH), 1), ((LOW, LOW), 0), ((LOW, -1), LOW), ((65536, 32768), LOW), ((65536, 65536), 0))
        self.gives(POINT, NUM, op("/", FIRST, SECOND), ((LOW, -1), LOW), ((LOW, 1), LOW), ((HIGH, LOW), -1))

    def test_pair(self):
        self.gives(NUM, both(NUM, NUMS), ("pair", V, ("iota", V)), (0, (0, [])), (2, (2, [0, 1])))
        self.gives(NUMS, both(both(NUMS, NUM), NUM), ("pair", ("pair", V, ONE), TWO), ([5], (([5], 1), 2)))

    def test_first_and_second(self):
        self.gives(POINT, NUM, FIRST, ((4, 5), 4))
        self.gives(POINT, NUM, SECOND, ((4, 5), 5))
        kind = both(both(NUM, NUMS), both(ROWS, NUM))
        value = ((1, [2]), ([[3], []], 4))
        self.gives(kind, NUMS, ("second", FIRST), (value, [2]))
        self.gives(kind, ROWS, ("first", SECOND), (value, [[3], []]))

    def test_each(self):
        self.gives(NUMS, NUMS, ("each", "x", V, op("+", X, ONE)), ([], []), ([4], [5]), ([HIGH, 0, -1], [LOW, 1, 0]))
        self.gives(ROWS, NUMS, ("each", "x", V, ("len", X)), ([], []), ([[]], [0]), ([[1, 2], [], [3]], [2, 0, 1]))
        self.gives(ROWS, ROWS, ("each", "x", V, ("each", "y", X, op("*", Y, ("len", X)))),
                   ([[1, 2], [], [3]], [[2, 4], [], [3]]))
        self.gives(NUMS, seq(POINT), ("each", "x", V, ("pair", X, ("len", V))), ([7, 8], [(7, 2), (8, 2)]))
        self.gives(NUMS, ROWS, ("each", "x", V, ("iota", X)), ([2, 0, 1], [[0, 1], [], [0]]))

    def test_iota(self):
        self.gives(NUM, NUMS, ("iota", V), (0, []), (1, [0]), (4, [0, 1, 2, 3]), (1000, list(range(1000))))

    def test_len(self):
        self.gives(NUMS, NUM, ("len", V), ([], 0), ([7], 1), ([0, 0, 0], 3))
        self.gives(ROWS, NUM, ("len", V), ([], 0), ([[]], 1), ([[1, 2], []], 2))

    def test_at(self):
        body = ("at", FIRST, SECOND)
        self.gives(both(NUMS, NUM), NUM, body, (([4, 5, 6], 0), 4), (([4, 5, 6], 1), 5), (([4, 5, 6], 2), 6))
        self.gives(both(ROWS, NUM), NUMS, body, (([[1, 2], []], 0), [1, 2]), (([[1, 2], []], 1), []))

    def test_sum(self):
        self.gives(NUMS, NUM, ("sum", V), ([], 0), ([7], 7), ([1, -2, 4], 3), ([LOW], LOW), ([HIGH], HIGH))

    def test_sum_is_wrapped(self):
        self.gives(NUMS, NUM, ("sum", V), ([HIGH, 1], LOW), ([LOW, -1], HIGH), ([LOW, LOW], 0), ([HIGH, HIGH], -2),
                   ([HIGH, 1, -1], HIGH), ([HIGH] * 4, -4))

    def test_flat(self):
        self.gives(ROWS, NUMS, ("flat", V), ([], []), ([[]], []), ([[], [], []], []), ([[1, 2]], [1, 2]),
                   ([[], [1, 2], [], [3], []], [1, 2, 3]))
        self.gives(seq(ROWS), ROWS, ("flat", V), ([[[1], []], [], [[2, 3]]], [[1], [], [2, 3]]))

    def test_keep(self):
        body = ("keep", FIRST, SECOND)
        self.gives(both(NUMS, NUMS), NUMS, body, (([], []), []), (([4, 5, 6], [1, 0, 1]), [4, 6]),
                   (([4, 5], [0, 0]), []), (([4, 5, 6], [-1, LOW, HIGH]), [4, 5, 6]))
        self.gives(both(ROWS, NUMS), ROWS, body, (([[1], [], [2, 3]], [0, 2, 7]), [[], [2, 3]]))

    def test_append(self):
        body = ("append", FIRST, SECOND)
        self.gives(both(NUMS, NUMS), NUMS, body, (([], []), []), (([1], []), [1]), (([], [2]), [2]),
                   (([3, 4], [1, 2]), [3, 4, 1, 2]))
        self.gives(both(ROWS, ROWS), ROWS, body, (([[1], []], [[2, 3]]), [[1], [], [2, 3]]))

    def test_a_number_beyond_the_range_is_no_error(self):
        self.gives(NUM, NUM, op("+", num(HIGH + 1), V), (0, LOW))


class Variables(EvaluateCase):
    def test_let_hides(self):
        inner = ("let", "v", op("+", V, ONE), ("let", "v", op("*", V, num(10)), V))
        self.gives(NUM, NUM, inner, (3, 40))
        self.gives(NUM, POINT, ("pair", ("let", "v", TWO, V), V), (3, (2, 3)))
        self.gives(NUM, POINT, ("pair", V, ("let", "v", TWO, V)), (3, (3, 2)))

    def test_each_hides(self):
        body = ("pair", ("each", "v", V, op("*", V, V)), V)
        self.gives(NUMS, both(NUMS, NUMS), body, ([2, 3], ([4, 9], [2, 3])), ([], ([], [])))
        self.gives(ROWS, ROWS, ("each", "v", V, ("each", "v", V, op("+", V, ONE))), ([[1], [2, 3]], [[2], [3, 4]]))

    def test_the_outer_one_is_visible_again_inside(self):
        body = ("each", "x", V, op("+", ("let", "x", num(100), X), X))
        self.gives(NUMS, NUMS, body, ([1, 2], [101, 102]))
        body = ("each", "x", V, ("pair", ("sum", ("each", "x", ("iota", X), op("*", X, X))), X))
        self.gives(NUMS, seq(POINT), body, ([3, 0, 4], [(5, 3), (0, 0), (14, 4)]))

    def test_the_first_part_sees_the_outer_one(self):
        self.gives(NUM, NUM, ("let", "x", num(5), ("let", "x", op("+", X, V), X)), (1, 6))
        self.gives(NUM, NUMS, ("let", "x", V, ("each", "x", ("iota", X), X)), (3, [0, 1, 2]))

    def test_visible_again_behind_branches_and_loops(self):
        hidden = ("let", "x", num(7), X)
        for c in (0, 1):
            body = ("let", "x", V, op("+", ("if", num(c), hidden, hidden), X))
            self.gives(NUM, NUM, body, (5, 12))
        for many in (0, 1, 3):
            body = ("let", "x", V, op("+", ("len", ("each", "x", ("iota", num(many)), X)), X))
            self.gives(NUM, NUM, body, (5, 5 + many))

    def test_a_function_sees_its_parameter_only(self):
        program = [function("f", NUM, NUM, ("let", "x", num(50), op("+", ("call", "g", op("+", V, ONE)), V))),
                   function("g", NUM, NUM, ("let", "v", op("*", X, num(10)), V), "x")]
        self.assertEqual(self.result_in(program, "f", 2), 32)

    def test_variables_of_a_caller_stay_behind_a_call(self):
        for inner in (("let", "y", V, Y), ("sum", ("each", "y", ("iota", V), TWO)), ("if", V, V, ONE)):
            program = [function("f", NUM, NUM, ("let", "x", num(50), ("let", "y", num(7), op("+", ("call", "g", V),
                                                                                           op("-", X, Y))))),
                       function("g", NUM, NUM, ("let", "x", inner, op("*", X, V)))]
            expected = self.result_in([program[1]], "g", 3) + 43
            self.assertEqual(self.result_in(program, "f", 3), expected)

    def test_a_variable_of_an_empty_name(self):
        self.gives(NUM, NUM, ("let", "", V, var("")), (9, 9))

    def test_deep_loops(self):
        x = [var(name) for name in "abcd"]
        body = op("+", op("*", x[0], x[3]), op("*", x[1], x[2]))
        for k in (3, 2, 1, 0):
            body = ("each", "abcd"[k], ("iota", V), body)
        expected = [[[[a * d + b * c for d in range(3)] for c in range(3)] for b in range(3)] for a in range(3)]
        self.gives(NUM, seq(seq(ROWS)), body, (3, expected), (0, []))


class Calls(EvaluateCase):
    def test_a_function_that_calls_itself(self):
        again = op("*", V, ("call", "f", op("-", V, ONE)))
        self.gives(NUM, NUM, ("if", V, again, ONE), (0, 1), (5, 120), (13, 1932053504))

    def test_earlier_and_later_ones(self):
        double = function("double", NUM, NUM, op("*", V, TWO))
        middle = function("middle", NUM, NUM, op("+", ("call", "double", V), ("call", "square", V)))
        square = function("square", NUM, NUM, op("*", V, V))
        self.assertEqual(self.result_in([double, middle, square], "middle", 5), 35)
        self.assertEqual(self.result_in([square, middle, double], "middle", 5), 35)
        self.assertEqual(self.result_in([double, middle, square], "square", 5), 25)
        self.assertEqual(self.result_in([double, middle, square], "double", 5), 10)

    def test_a_ring_of_two(self):
        def step(other, base):
            return ("if", V, ("call", other, op("-", V, ONE)), num(base))
        program = [function("even", NUM, NUM, step("odd", 1)), function("odd", NUM, NUM, step("even", 0))]
        for n in range(12):
            self.assertEqual(self.result_in(program, "even", n), 1 - n % 2)
            self.assertEqual(self.result_in(program, "odd", n), n % 2)

    def test_calls_in_loops(self):
        again = ("append", ("append", ("call", "sort", smaller("<")), keep_pivot()), ("call", "sort", smaller(">")))
        body = ("if", op("<", ("len", V), TWO), V, again)
        for row in ([], [1], [2, 1], [5, 3, 9, 3, 1, 5, 0, -4], list(range(12))):
            self.assertEqual(self.result_in([function("sort", NUMS, NUMS, body)], "sort", row), sorted(row))

    def test_a_tree_by_calls_in_each(self):
        body = op("+", ONE, ("sum", ("each", "x", ("iota", V), ("call", "f", X))))
        self.gives(NUM, NUM, body, (0, 1), (1, 2), (8, 256))

    def test_calls_one_after_the_other_are_not_inside(self):
        program = [function("f", NUM, NUM, ("sum", ("each", "x", ("iota", V), ("call", "g", X)))),
                   function("g", NUM, NUM, op("+", V, ONE))]
        self.assertEqual(self.result_in(program, "f", 1000), 500500)
        body = V
        for _ in range(100):
            body = ("call", "g", body)
        self.assertEqual(self.result_in([function("f", NUM, NUM, body), program[1]], "f", 1), 101)


def smaller(sign):
    """The elements of v that are less, or greater, than the first one."""
    pivot = ("at", V, num(0))
    mark = op("<", X, pivot) if sign == "<" else op("<", pivot, X)
    return ("keep", V, ("each", "x", V, mark))


def keep_pivot():
    return ("keep", V, ("each", "x", V, op("=", X, ("at", V, num(0)))))


class Branches(EvaluateCase):
    def test_only_one_is_evaluated(self):
        self.gives(NUM, NUM, ("if", V, num(1), TRAP), (1, 1))
        self.gives(NUM, NUM, ("if", V, TRAP, num(2)), (0, 2))

    def test_an_each_over_nothing_evaluates_no_body(self):
        self.gives(NUMS, NUMS, ("each", "x", V, TRAP), ([], []))


class Large(EvaluateCase):
    def test_deep_expressions(self):
        left = right = V
        for _ in range(20000):
            left = op("+", left, ONE)
            right = op("+", ONE, right)
        self.assertEqual(evaluate([function("f", NUM, NUM, left)], "f", 5)[0], 20005)
        self.assertEqual(evaluate([function("f", NUM, NUM, right)], "f", 5)[0], 20005)

    def test_deep_lets_and_branches(self):
        lets = branches = loops = V
        for _ in range(2000):
            lets = ("let", "v", op("+", V, ONE), lets)
            branches = ("if", V, branches, TRAP)
            loops = ("sum", ("each", "x", ("iota", ONE), loops))
        self.assertEqual(evaluate([function("f", NUM, NUM, lets)], "f", 5)[0], 2005)
        self.assertEqual(evaluate([function("f", NUM, NUM, branches)], "f", 5)[0], 5)
        self.assertEqual(evaluate([function("f", NUM, NUM, loops)], "f", 5)[0], 5)

    def test_deep_expressions_in_deep_calls(self):
        deep = ("call", "f", op("-", V, ONE))
        for _ in range(500):
            deep = op("+", deep, ONE)
        program = [function("f", NUM, NUM, ("if", V, deep, V))]
        self.assertEqual(evaluate(program, "f", 39)[0], 19500)

    def test_deep_values(self):
        kind, row = NUMS, [1, 2]
        for _ in range(5000):
            kind, row = seq(kind), [row]
        result, work = evaluate([function("f", kind, both(kind, NUM), ("pair", V, ("len", V)))], "f", row)
        self.assertEqual((result[1], work), (1, 4))
        inner = result[0]
        for _ in range(5000):
            self.assertEqual(len(inner), 1)
            inner = inner[0]
        self.assertEqual(inner, [1, 2])

    def test_a_value_that_is_doubled_again_and_again(self):
        body = X
        for _ in range(200):
            body = ("first", body)
        for _ in range(200):
            body = ("let", "x", ("pair", X, X), body)
        body = ("let", "x", V, ("if", ONE, body, ("num", 0)))
        self.assertEqual(evaluate([function("f", NUM, NUM, body)], "f", 7)[0], 7)


class Sharing(EvaluateCase):
    """What comes back shares no list with what was passed."""

    def separate(self, given, result, body, value):
        """Changing every list of the result leaves the value as it was."""
        program = [function("f", given, result, body)]
        before = copy.deepcopy((program, value))
        found, _ = evaluate(program, "f", value)
        expected = copy.deepcopy(found)
        self.spoil(found)
        self.assertEqual((program, value), before)
        self.assertEqual(evaluate(program, "f", value)[0], expected)

    def spoil(self, value):
        if isinstance(value, tuple):
            self.spoil(value[0])
            self.spoil(value[1])
        elif isinstance(value, list):
            for element in value:
                self.spoil(element)
            value.append("spoiled")

    def test_the_argument_itself(self):
        self.separate(NUMS, NUMS, V, [1, 2])
        self.separate(NUMS, NUMS, V, [])
        self.separate(ROWS, ROWS, V, [[1, 2], [], [3]])
        self.separate(both(NUMS, ROWS), both(NUMS, ROWS), V, ([1], [[2], []]))

    def test_parts_of_it(self):
        value = ([[1, 2], [3]], [[4], []])
        kind = both(ROWS, ROWS)
        self.separate(kind, ROWS, FIRST, value)
        self.separate(kind, ROWS, SECOND, value)
        self.separate(kind, NUMS, ("at", FIRST, ONE), value)
        self.separate(kind, ROWS, ("append", FIRST, SECOND), value)
        self.separate(kind, ROWS, ("keep", FIRST, ("iota", TWO)), value)
        self.separate(kind, ROWS, ("each", "x", FIRST, X), value)
        self.separate(kind, seq(ROWS), ("each", "x", FIRST, SECOND), value)
        self.separate(kind, NUMS, ("flat", FIRST), value)
        self.separate(seq(ROWS), ROWS, ("flat", V), [[[1], []], [[2]]])

    def test_passed_on(self):
        value = [[1, 2], [3]]
        self.separate(ROWS, ROWS, ("let", "x", V, X), value)
        self.separate(ROWS, ROWS, ("if", ONE, V, V), value)
        self.separate(ROWS, both(ROWS, ROWS), ("pair", V, V), value)
        program = [function("f", ROWS, ROWS, ("call", "g", V)), function("g", ROWS, ROWS, V)]
        found, _ = evaluate(program, "f", value)
        self.spoil(found)
        self.assertEqual(value, [[1, 2], [3]])

    def test_lists_of_the_result_are_apart(self):
        found, _ = evaluate([function("f", NUMS, both(NUMS, NUMS), ("pair", V, V))], "f", [1])
        found[0].append(2)
        self.assertEqual(found, ([1, 2], [1]))

    def test_kinds_of_the_result(self):
        found, _ = evaluate([function("f", NUM, both(seq(POINT), NUM), ("pair", ("each", "x", ("iota", V),
                                                                              ("pair", X, X)), V))], "f", 1)
        self.assertEqual((type(found), type(found[0]), type(found[0][0]), type(found[1])), (tuple, list, tuple, int))


if __name__ == "__main__":
    unittest.main()
