"""What the blocks of `flatten` give for every form, against `evaluate`, and by hand."""

import copy
import unittest

from building import (HIGH, LOW, NUM, NUMS, ONE, POINT, ROWS, TRAP, TWO, V, X, Y, both, function, num, op, seq, var)
from flatsheaves.errors import TrapError
from flatsheaves.flatten import flatten
from flatsheaves.kinds import check
from flatsheaves.machine import run
from flatsheaves.plain import evaluate

FIRST = ("first", V)
SECOND = ("second", V)
TRAPPED = "trap"


class FlattenCase(unittest.TestCase):
    def compare(self, given, result, body, *values):
        return self.compare_in([function("f", given, result, body)], "f", *values)

    def compare_in(self, program, name, *values):
        """Run the values alone, twice, all together and backwards, and return what the plain meaning gives for each."""
        check(program)
        before = copy.deepcopy((program, values))
        blocks = flatten(program)
        outcomes = [self.plain(program, name, value) for value in values]
        for value, found in zip(values, outcomes):
            self.together(blocks, name, [value], [found])
            self.together(blocks, name, [value, value], [found, found])
        self.together(blocks, name, list(values), outcomes)
        self.together(blocks, name, list(values[::-1]), outcomes[::-1])
        good = [k for k, found in enumerate(outcomes) if found != TRAPPED]
        self.together(blocks, name, [values[k] for k in good], [outcomes[k] for k in good])
        self.assertEqual((program, values), before)
        return outcomes

    def plain(self, program, name, value):
        try:
            return evaluate(program, name, value)[0]
        except TrapError:
            return TRAPPED

    def together(self, blocks, name, values, outcomes):
        if TRAPPED in outcomes:
            with self.assertRaises(TrapError):
                run(blocks, name, values)
        else:
            self.assertEqual(run(blocks, name, values)[0], outcomes, (blocks, values))


class Forms(FlattenCase):
    def test_the_example(self):
        body = ("each", "x", V, op("*", X, X))
        blocks = flatten([function("squares", NUMS, NUMS, body)])
        self.assertEqual(run(blocks, "squares", [[3, 4], [], [LOW]])[0], [[9, 16], [], [0]])

    def test_by_hand(self):
        cases = [
            (ROWS, NUMS, ("each", "x", V, ("sum", X)), [[[1, 2], [], [3]], [], [[HIGH, 1]]], [[3, 0, 3], [], [LOW]]),
            (NUM, ROWS, ("each", "x", ("iota", V), ("iota", X)), [3, 0, 1], [[[], [0], [0, 1]], [], [[]]]),
            (NUM, NUM, ("if", V, num(7), num(8)), [0, 5, 0, -1], [8, 7, 8, 7]),
            (both(NUMS, NUMS), NUMS, ("append", FIRST, SECOND), [([1], [2, 3]), ([], []), ([], [4]), ([5], [])],
             [[1, 2, 3], [], [4], [5]]),
            (both(ROWS, NUMS), ROWS, ("keep", FIRST, SECOND), [([[1], [2, 3], []], [1, 0, -1]), ([], []), ([[9]], [0])],
             [[[1], []], [], []]),
            (ROWS, NUMS, ("flat", V), [[[1], [], [2, 3]], [], [[]]], [[1, 2, 3], [], []]),
            (both(ROWS, NUM), NUMS, ("at", FIRST, SECOND), [([[1], [2, 3]], 1), ([[]], 0)], [[2, 3], []]),
        ]
        for given, result, body, values, results in cases:
            blocks = flatten([function("f", given, result, body)])
            self.assertEqual(run(blocks, "f", values)[0], results)

    def test_num_and_var(self):
        self.compare(NUM, NUM, num(HIGH), 1, 2)
        self.compare(NUM, NUM, V, LOW, 0, HIGH)
        self.compare(ROWS, ROWS, V, [], [[]], [[1, 2], [], [3]])
        self.compare(POINT, both(POINT, POINT), ("pair", V, V), (1, 2), (3, 4))

    def test_let(self):
        self.compare(NUMS, NUMS, ("let", "x", V, ("let", "v", num(3), X)), [], [1, 2])
        self.compare(NUM, NUM, ("let", "v", op("+", V, ONE), ("let", "v", op("*", V, TWO), V)), 3, 4)
        hidden = op("+", ("let", "v", num(100), V), V)
        self.compare(NUM, NUM, hidden, 3, 4)

    def test_operations(self):
        numbers = (LOW, -7, -1, 0, 1, 2, 7, HIGH)
        values = [(a, b) for a in numbers for b in numbers]
        for sign in ("+", "-", "*", "/", "mod", "min", "max", "<", "="):
            self.compare(POINT, NUM, op(sign, FIRST, SECOND), *values)

    def test_pairs(self):
        kind = both(NUMS, both(NUM, ROWS))
        values = [([1, 2], (3, [[4], []])), ([], (5, []))]
        self.compare(kind, both(both(NUM, ROWS), NUMS), ("pair", SECOND, FIRST), *values)
        self.compare(kind, ROWS, ("second", SECOND), *values)

    def test_if(self):
        values = [(k, [k] * max(k, 0)) for k in (0, 1, 2, -1, 0, HIGH % 5, LOW)]
        self.compare(both(NUM, NUMS), NUMS, ("if", FIRST, SECOND, ("iota", num(3))), *values)
        self.compare(both(NUM, NUMS), seq(POINT), ("if", FIRST, ("each", "x", SECOND, ("pair", X, FIRST)),
                                                   ("each", "x", ("iota", num(2)), ("pair", FIRST, X))), *values)
        nested = ("if", op("<", FIRST, ONE), ("if", FIRST, num(1), num(2)), ("if", op("=", FIRST, TWO), num(3), num(4)))
        self.compare(both(NUM, NUMS), NUM, nested, *values)
        deep = both(NUM, seq(both(NUMS, seq(POINT))))
        rows = [(0, []), (1, [([1], [(2, 3)]), ([], [])]), (0, [([4, 5], [])]), (2, [([], [(6, 7), (8, 9)])])]
        other = ("each", "x", SECOND, ("pair", ("append", ("first", X), ("first", X)), ("second", X)))
        self.compare(deep, deep[2], ("if", FIRST, SECOND, other), *rows)

    def test_each(self):
        values = [[[1, 2], [], [3]], [], [[]], [[4]]]
        self.compare(ROWS, ROWS, ("each", "x", V, ("each", "y", X, op("+", Y, ("len", X)))), *values)
        self.compare(ROWS, seq(ROWS), ("each", "x", V, V), *values)
        self.compare(ROWS, seq(seq(ROWS)), ("each", "x", V, ("each", "y", X, V)), *values)
        self.compare(ROWS, ROWS, ("each", "v", V, ("each", "v", V, V)), *values)
        self.compare(ROWS, NUMS, ("each", "x", V, num(5)), *values)
        self.compare(ROWS, seq(POINT), ("each", "x", V, ("pair", ("len", V), ("sum", X))), *values)

    def test_a_variable_that_is_used_only_inside(self):
        values = [([1, 2], [[5], []]), ([], [[6]]), ([3], [])]
        kind = both(NUMS, ROWS)
        body = ("let", "y", SECOND, ("each", "x", FIRST, ("pair", X, Y)))
        self.compare(kind, seq(both(NUM, ROWS)), body, *values)
        body = ("let", "y", SECOND, ("each", "x", FIRST, ("if", op("<", X, TWO), Y, ("append", Y, Y))))
        self.compare(kind, seq(ROWS), body, *values)

    def test_iota_len_sum(self):
        self.compare(NUM, NUMS, ("iota", V), 0, 1, 5, 1000)
        self.compare(ROWS, POINT, ("pair", ("len", V), ("sum", ("each", "x", V, ("len", X)))), [], [[]], [[1], [2, 3]])
        self.compare(NUMS, NUM, ("sum", V), [], [HIGH, HIGH, HIGH], [LOW, LOW], [5])

    def test_at(self):
        kind = both(seq(both(NUMS, NUM)), NUM)
        rows = [([1, 2], 3), ([], 4), ([5], 6)]
        self.compare(kind, kind[1][1], ("at", FIRST, SECOND), *[(rows, k) for k in (-1, 0, 1, 2, 3, LOW, HIGH)])
        self.compare(NUMS, NUMS, ("each", "x", V, ("at", V, X)), [0], [2, 0, 1], [1, 2], [])

    def test_flat_keep_append(self):
        values = [[[[1], []], []], [], [[]], [[[2, 3]], [[4]]]]
        self.compare(seq(ROWS), ROWS, ("flat", V), *values)
        self.compare(seq(ROWS), NUMS, ("flat", ("flat", V)), *values)
        self.compare(seq(ROWS), ROWS, ("each", "x", V, ("flat", X)), *values)
        self.compare(seq(ROWS), seq(ROWS), ("append", V, ("append", V, V)), *values)
        self.compare(seq(ROWS), seq(ROWS), ("keep", V, ("each", "x", V, ("len", X))), *values)
        self.compare(seq(ROWS), seq(ROWS), ("each", "x", V, ("keep", X, ("each", "y", X, ("len", Y)))), *values)

    def test_calls(self):
        double = function("double", NUMS, NUMS, ("each", "x", V, op("*", X, TWO)))
        outer = function("f", ROWS, ROWS, ("each", "x", V, ("append", X, ("call", "double", X))))
        values = [[[1, 2], []], [], [[3]]]
        for program in ([double, outer], [outer, double]):
            self.compare_in(program, "f", *values)
        swap = function("swap", both(NUM, ROWS), both(ROWS, NUM), ("pair", SECOND, FIRST), "v")
        other = function("f", both(NUM, ROWS), both(NUM, ROWS), ("let", "x", ("call", "swap", V),
                                                                ("pair", ("second", X), ("first", X))))
        self.compare_in([other, swap], "f", (1, [[2], []]), (3, []))

    def test_the_name_of_a_function_says_nothing(self):
        program = [function("fill", NUM, NUM, ("call", "call", V)), function("call", NUM, NUM, op("+", V, ONE))]
        self.compare_in(program, "fill", 1, 2)

    def test_no_values(self):
        for kind in (NUM, NUMS, both(ROWS, POINT)):
            self.assertEqual(run(flatten([function("f", kind, kind, V)]), "f", []), ([], 0, 0))
            self.assertEqual(run(flatten([function("f", kind, NUM, TRAP)]), "f", []), ([], 0, 0))

    def test_no_functions(self):
        self.assertEqual(flatten([]), [])


class Traps(FlattenCase):
    def test_operations_and_iota(self):
        for sign in ("/", "mod"):
            found = self.compare(NUM, NUM, op(sign, num(7), V), 0, 1, -1)
            self.assertEqual(found[0], TRAPPED)
        self.assertEqual(self.compare(NUM, NUM, ("len", ("iota", V)), -1, 0, 1000, 1001, LOW, HIGH),
                         [TRAPPED, 0, 1000, TRAPPED, TRAPPED, TRAPPED])

    def test_keep(self):
        self.assertEqual(self.compare(both(NUMS, NUMS), NUMS, ("keep", FIRST, SECOND), ([1], []), ([], [1]), ([1], [1]),
                                      ([1, 2], [1]), ([], [])), [TRAPPED, TRAPPED, [1], TRAPPED, []])

    def test_keep_with_lengths_that_add_up(self):
        """The sequences of both lanes together are equally long, those of each lane are not."""
        blocks = flatten([function("f", both(NUMS, NUMS), NUMS, ("keep", FIRST, SECOND))])
        with self.assertRaises(TrapError):
            run(blocks, "f", [([1], [1, 1]), ([1, 1], [1])])
        inside = ("each", "x", V, ("keep", ("first", X), ("second", X)))
        self.compare(seq(both(NUMS, NUMS)), ROWS, inside, [([1], [1, 1]), ([1, 1], [1])], [([1], [1])], [])

    def test_at_with_an_index_of_another_lane(self):
        blocks = flatten([function("f", both(NUMS, NUM), NUM, ("at", FIRST, SECOND))])
        for values in ([([1], 1), ([1, 2], 0)], [([1, 2], 0), ([1], -1)]):
            with self.assertRaises(TrapError):
                run(blocks, "f", values)

    def trapping(self):
        """Numbers that trap, each with a variable that stands for the number 0."""
        zero = ("iota", num(0))
        return [op("/", ONE, Y), op("mod", ONE, Y), ("len", ("iota", op("-", Y, ONE))),
                ("len", ("iota", op("+", Y, num(1001)))), ("at", ("iota", ONE), op("+", Y, ONE)), ("at", zero, Y),
                ("at", ("iota", ONE), op("-", Y, ONE)), ("len", ("keep", ("iota", op("+", Y, ONE)), zero)),
                ("len", ("keep", zero, ("iota", ONE))), ("call", "trap", Y)]

    def with_trap(self, body, given=NUM, result=NUM):
        bad = function("trap", NUM, NUM, op("/", ONE, V))
        return [function("f", given, result, ("let", "y", num(0), body)), bad]

    def test_in_a_branch_that_some_values_take(self):
        for trap in self.trapping():
            self.assertEqual(self.compare_in(self.with_trap(("if", V, trap, num(5))), "f", 0, 1, 0), [5, TRAPPED, 5])
            self.assertEqual(self.compare_in(self.with_trap(("if", V, num(5), trap)), "f", 0, 1, 0),
                             [TRAPPED, 5, TRAPPED])
            inner = ("if", V, ("if", op("<", V, ONE), trap, num(6)), num(5))
            self.assertEqual(self.compare_in(self.with_trap(inner), "f", 0, 1, -1), [5, 6, TRAPPED])

    def test_in_a_branch_that_no_value_takes(self):
        for trap in self.trapping():
            blocks = flatten(self.with_trap(("if", V, trap, num(5))))
            self.assertEqual(run(blocks, "f", [0, 0, 0])[0], [5, 5, 5])

    def test_in_a_loop(self):
        for trap in self.trapping():
            program = self.with_trap(("each", "x", V, trap), NUMS, NUMS)
            self.assertEqual(self.compare_in(program, "f", [], [1], []), [[], TRAPPED, []])
            program = self.with_trap(("each", "x", V, ("each", "z", X, trap)), ROWS, ROWS)
            self.assertEqual(self.compare_in(program, "f", [], [[]], [[], [1]], [[], []]),
                             [[], [[]], TRAPPED, [[], []]])
            program = self.with_trap(("each", "x", V, ("if", X, num(3), trap)), NUMS, NUMS)
            self.assertEqual(self.compare_in(program, "f", [], [1, 2], [1, 0]), [[], [3, 3], TRAPPED])

    def test_where_nobody_uses_what_traps(self):
        for trap in self.trapping():
            program = self.with_trap(("let", "x", trap, ("first", ("pair", num(3), trap))))
            self.assertEqual(self.compare_in(program, "f", 0, 1), [TRAPPED, TRAPPED])


if __name__ == "__main__":
    unittest.main()
