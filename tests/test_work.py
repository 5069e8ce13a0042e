"""The work that `evaluate` counts, each number added up by hand as point 9 says."""

import unittest

from building import HIGH, NUM, NUMS, ONE, POINT, ROWS, TWO, V, X, Y, both, function, num, op, seq, var
from flatsheaves.kinds import check
from flatsheaves.plain import evaluate

FIRST = ("first", V)
SECOND = ("second", V)


class WorkCase(unittest.TestCase):
    def work(self, given, result, body, value):
        return self.work_in([function("f", given, result, body)], "f", value)

    def work_in(self, program, name, value):
        check(program)
        return evaluate(program, name, value)[1]

    def takes(self, given, result, body, *cases):
        for value, work in cases:
            self.assertEqual(self.work(given, result, body, value), work, (body, value))


class Simple(WorkCase):
    """Forms that add 1 for each evaluation, and nothing else."""

    def test_num_and_var(self):
        self.takes(NUM, NUM, num(HIGH), (3, 1))
        self.takes(NUM, NUM, V, (3, 1))
        self.takes(ROWS, ROWS, V, ([], 1), ([[1, 2], [3]], 1))

    def test_let(self):
        self.takes(NUM, NUM, ("let", "x", num(5), num(6)), (3, 3))
        self.takes(NUMS, NUMS, ("let", "x", V, ("let", "y", X, Y)), ([1, 2, 3], 5))

    def test_op(self):
        for sign in ("+", "-", "*", "/", "mod", "min", "max", "<", "="):
            self.takes(NUM, NUM, op(sign, V, ONE), (HIGH, 3))
        self.takes(NUM, NUM, op("+", op("*", V, V), V), (4, 5))

    def test_pair_and_parts(self):
        self.takes(NUMS, both(NUMS, NUM), ("pair", V, ONE), ([1, 2, 3], 3))
        self.takes(both(NUMS, NUM), NUMS, FIRST, (([1, 2, 3], 4), 2))
        self.takes(both(NUMS, NUM), NUM, SECOND, (([1, 2, 3], 4), 2))

    def test_len(self):
        self.takes(NUMS, NUM, ("len", V), ([], 2), ([1, 2, 3], 2))
        self.takes(ROWS, NUM, ("len", V), ([[1, 2], [3]], 2))

    def test_call(self):
        program = [function("f", NUM, NUM, ("call", "g", op("+", V, ONE))), function("g", NUM, NUM, op("*", V, V))]
        # The call 1, its argument 3, the body of g 3.
        self.assertEqual(self.work_in(program, "f", 5), 7)
        self.assertEqual(self.work_in(program, "g", 5), 3)

    def test_call_of_a_large_argument(self):
        program = [function("f", NUMS, NUMS, ("call", "g", V)), function("g", NUMS, NUMS, V)]
        self.assertEqual(self.work_in(program, "f", [1, 2, 3]), 3)


class Sizes(WorkCase):
    """Forms that add the number of elements, or sizes of their parts."""

    def test_iota(self):
        self.takes(NUM, NUMS, ("iota", V), (0, 2), (1, 3), (5, 7), (1000, 1002))

    def test_at(self):
        # 1, the parts 1 and 1, the size of the sequence, and 1 for the index.
        self.takes(NUMS, NUM, ("at", V, num(0)), ([7], 6), ([7, 8, 9], 8))
        self.takes(ROWS, NUMS, ("at", V, ONE), ([[1, 2], [], [3]], 11))
        self.takes(seq(POINT), POINT, ("at", V, num(0)), ([(1, 2), (3, 4)], 9))

    def test_sum(self):
        self.takes(NUMS, NUM, ("sum", V), ([], 3), ([7], 4), ([HIGH, HIGH, HIGH], 6))

    def test_flat(self):
        self.takes(ROWS, NUMS, ("flat", V), ([], 3), ([[]], 4), ([[], []], 5), ([[1, 2], [], [3]], 9))
        self.takes(seq(seq(POINT)), seq(POINT), ("flat", V), ([[(1, 2)], [(3, 4), (5, 6)]], 11))

    def test_keep(self):
        body = ("keep", FIRST, SECOND)
        # 1, the parts 2 and 2, and the sizes of both.
        self.takes(both(NUMS, NUMS), NUMS, body, (([], []), 7), (([4, 5, 6], [1, 0, 1]), 13), (([4], [0]), 9))
        self.takes(both(ROWS, NUMS), ROWS, body, (([[1, 2], []], [0, 0]), 5 + 5 + 3))

    def test_append(self):
        body = ("append", FIRST, SECOND)
        self.takes(both(NUMS, NUMS), NUMS, body, (([], []), 7), (([1], []), 8), (([1, 2], [3]), 10))
        self.takes(both(ROWS, ROWS), ROWS, body, (([[1, 2], []], [[3]]), 5 + 5 + 3))
        self.takes(NUMS, NUMS, ("append", V, V), ([1, 2], 3 + 3 + 3))

    def test_sizes_of_what_was_made(self):
        """The parts that are measured come from every form that makes a pair or a sequence."""
        made = [
            (ROWS, ("each", "x", ("iota", num(2)), ("iota", X)), 4),
            (NUMS, ("iota", num(3)), 4),
            (NUMS, ("flat", ("each", "x", ("iota", num(3)), ("iota", X))), 4),
            (NUMS, ("keep", ("iota", num(3)), ("iota", num(3))), 3),
            (NUMS, ("append", ("iota", num(1)), ("iota", num(3))), 5),
            (seq(POINT), ("each", "x", ("iota", num(2)), ("pair", X, X)), 5),
            (NUMS, ("first", ("pair", ("iota", num(3)), ONE)), 4),
            (NUMS, ("second", ("pair", ONE, ("iota", num(3)))), 4),
            (NUMS, ("at", ("each", "x", ("iota", num(2)), ("iota", num(4))), ONE), 5),
            (ROWS, ("keep", ("each", "x", ("iota", num(3)), ("iota", X)), ("iota", num(3))), 6),
        ]
        for kind, body, size in made:
            alone = self.work(NUM, kind, body, 0)
            # The append 1, and the sizes of its two parts.
            twice = self.work(NUM, kind, ("append", body, body), 0)
            self.assertEqual(twice, 1 + 2 * alone + 2 * size, body)

    def test_parts_that_are_pairs(self):
        body = ("at", ("each", "x", V, ("pair", X, ("pair", V, X))), num(0))
        # The each: 1, v 1, size 3, 3 times (1 + 3), and 5 for each element; each element has the size 5.
        each = 1 + 1 + 3 + 3 * 4 + 2 * 5
        self.takes(NUMS, both(NUM, both(NUMS, NUM)), body, ([7, 8], 1 + each + 1 + 11 + 1))


class Branches(WorkCase):
    def test_no_variables(self):
        # 1, the condition 1, the branch 1, and the size of the result.
        self.takes(NUM, NUM, ("if", V, ONE, TWO), (0, 4), (1, 4))
        self.takes(NUM, NUMS, ("if", V, ("iota", num(3)), ("iota", num(0))), (1, 1 + 1 + 5 + 4), (0, 1 + 1 + 2 + 1))

    def test_variables_of_both_branches(self):
        kind = both(NUMS, ROWS)
        body = ("let", "x", FIRST, ("let", "y", SECOND, ("if", num(1), ("len", X), ("len", Y))))
        value = ([1, 2, 3], [[4], []])
        # The lets 1 + 2 and 1 + 2; the if 1, its condition 1, the branch 2, x 4, y 4, the result 1.
        self.takes(kind, NUM, body, (value, 6 + 4 + 4 + 4 + 1))
        other = ("let", "x", FIRST, ("let", "y", SECOND, ("if", num(0), ("len", X), ("len", Y))))
        self.takes(kind, NUM, other, (value, 6 + 4 + 4 + 4 + 1))
        self.takes(kind, NUM, body, (([], []), 6 + 4 + 1 + 1 + 1))
        self.takes(kind, NUM, body, (([1, 2, 3, 4, 5, 6], []), 6 + 4 + 7 + 1 + 1))

    def test_one_variable_in_both_branches_counts_twice(self):
        self.takes(NUMS, NUMS, ("if", ONE, V, V), ([1, 2], 3 + 3 + 3 + 3), ([], 3 + 1 + 1 + 1))

    def test_a_variable_in_one_branch_only(self):
        self.takes(NUMS, NUM, ("if", ONE, ONE, ("len", V)), ([1, 2], 3 + 3 + 1))
        self.takes(NUMS, NUM, ("if", num(0), ("len", V), ONE), ([1, 2], 3 + 3 + 1))

    def test_several_times_in_a_branch_counts_once_there(self):
        body = ("if", ONE, ("append", V, ("append", V, V)), ("iota", num(0)))
        inner = 1 + 1 + (1 + 1 + 1 + 6) + 3 + 5
        self.takes(NUMS, NUMS, body, ([1, 2], 2 + inner + 3 + 7))
        body = ("if", num(0), ("append", V, ("append", V, V)), V)
        self.takes(NUMS, NUMS, body, ([1, 2], 3 + 3 + 3 + 3))
        # Once also where inner forms count it for themselves.
        body = ("if", num(0), ("each", "x", V, ("len", V)), ("if", num(0), V, V))
        self.takes(NUMS, NUMS, body, ([1, 2], 2 + (3 + 3 + 3 + 3) + 3 + 3 + 3))

    def test_variables_of_the_condition_do_not_count(self):
        self.takes(NUMS, NUM, ("if", ("len", V), ONE, TWO), ([1, 2, 3], 1 + 2 + 1 + 1))

    def test_bound_inside_of_a_branch(self):
        # 1, condition 1, the let 3, v in the first branch 3, the result 1.
        self.takes(NUMS, NUM, ("if", ONE, ("let", "x", V, num(4)), ONE), ([1, 2], 1 + 1 + 3 + 3 + 1))
        self.takes(NUMS, NUMS, ("if", ONE, ("let", "v", ("iota", ONE), V), ("iota", ONE)), ([1, 2], 2 + 5 + 0 + 2))
        # The inner v is another one, and the outer one is free in the part before it.
        self.takes(NUMS, NUMS, ("if", ONE, ("let", "v", V, V), ("iota", ONE)), ([1, 2], 2 + 3 + 3 + 3))

    def test_a_variable_hides_another_around_a_branch(self):
        body = ("let", "v", ("iota", num(5)), ("if", ONE, ("len", V), ONE))
        # The let 1 and 7; the if 1, 1, 2, the inner v 6, the result 1.
        self.takes(NUMS, NUM, body, ([1, 2], 8 + 4 + 6 + 1))
        body = ("append", ("let", "v", ("iota", num(5)), V), ("if", ONE, V, ("iota", num(0))))
        # Behind the let it is the outer one: 3 + 3 + 3; then the append adds 6 and 3.
        self.takes(NUMS, NUMS, body, ([1, 2], 1 + (1 + 7 + 1) + (3 + 3 + 3) + 9))

    def test_the_result(self):
        self.takes(both(NUM, ROWS), both(NUM, ROWS), ("if", FIRST, V, V), ((1, [[1, 2], []]), 1 + 2 + 1 + 6 + 6 + 6))

    def test_nested(self):
        inner = ("if", num(0), ("len", X), V)
        body = ("let", "x", ("iota", num(3)), ("if", num(1), inner, ("len", X)))
        # inner: 1, 1, v 1, x 4, v 1, result 1; outer: 1, 1, x and v 5, x 4, result 1; the let 1 and 5.
        self.takes(NUM, NUM, body, (9, 9 + 12 + 6))


class Loops(WorkCase):
    def test_the_example(self):
        body = ("each", "x", V, op("*", X, X))
        self.takes(NUMS, NUMS, body, ([3, 4], 14))
        squares = [function("squares", NUMS, NUMS, body)]
        self.assertEqual(evaluate(squares, "squares", [3, 4]), ([9, 16], 14))

    def test_no_free_variables(self):
        # 1, v 1, the size, (1 + n) times 1, and n times the body.
        self.takes(NUMS, NUMS, ("each", "x", V, X), ([], 1 + 1 + 1 + 1), ([5], 1 + 1 + 2 + 2 + 1),
                   ([5, 6, 7], 1 + 1 + 4 + 4 + 3))
        self.takes(ROWS, NUMS, ("each", "x", V, ("len", X)), ([[1, 2], [], [3]], 1 + 1 + 7 + 4 + 6), ([[]], 8))

    def test_free_variables_of_the_body(self):
        body = ("each", "x", V, ("len", V))
        self.takes(NUMS, NUMS, body, ([5, 6], 1 + 1 + 3 + 3 * (1 + 3) + 2 * 2), ([5], 1 + 1 + 2 + 2 * (1 + 2) + 2))
        body = ("let", "y", ("iota", num(3)), ("each", "x", V, op("+", X, ("len", Y))))
        self.takes(NUMS, NUMS, body, ([5, 6], 1 + 5 + 1 + 1 + 3 + 3 * (1 + 4) + 2 * 4))

    def test_an_empty_sequence_counts_them_too(self):
        self.takes(NUMS, NUMS, ("each", "x", V, ("len", V)), ([], 1 + 1 + 1 + 1 * (1 + 1)))
        body = ("each", "x", ("iota", num(0)), ("sum", V))
        self.takes(NUMS, NUMS, body, ([1, 2, 3], 1 + 2 + 1 + 1 * (1 + 4)))

    def test_each_variable_once(self):
        body = ("each", "x", ("iota", num(2)), op("+", ("len", V), op("*", ("len", V), ("sum", V))))
        # len 2, len 2, sum 2 + 4, and the operations 2.
        self.takes(NUMS, NUMS, body, ([1, 2, 3], 1 + 4 + 3 + 3 * (1 + 4) + 2 * 12))

    def test_its_own_variable_does_not_count(self):
        body = ("each", "v", V, ("len", V))
        self.takes(ROWS, NUMS, body, ([[1, 2], [3]], 1 + 1 + 6 + 3 + 4))
        # Nor where it hides an outer one that is large.
        body = ("let", "x", ("iota", num(9)), ("each", "x", V, X))
        self.takes(NUMS, NUMS, body, ([5], 1 + 11 + 1 + 1 + 2 + 2 + 1))

    def test_variables_of_the_sequence_do_not_count(self):
        self.takes(NUM, NUMS, ("each", "x", ("iota", V), ONE), (2, 1 + 4 + 3 + 3 + 2))

    def test_variables_bound_in_the_body_do_not_count(self):
        body = ("each", "x", ("iota", TWO), ("let", "y", ("iota", num(3)), ("len", Y)))
        self.takes(NUM, NUMS, body, (0, 1 + 4 + 3 + 3 + 2 * (1 + 5 + 2)))
        body = ("each", "x", ("iota", ONE), ("let", "v", V, ("len", V)))
        self.takes(NUMS, NUMS, body, ([1, 2], 1 + 3 + 2 + 2 * (1 + 3) + 4))

    def test_nested(self):
        body = ("each", "x", V, ("each", "y", X, op("+", Y, ("len", X))))
        # The inner one: 1, x 1, size 3, 3 times (1 + 3), 2 times 4; for the second 1, 1, 1, 1 * 2.
        inner = (1 + 1 + 3 + 3 * 4 + 2 * 4) + (1 + 1 + 1 + 2)
        self.takes(ROWS, ROWS, body, ([[1, 2], []], 1 + 1 + 5 + 3 + inner))
        body = ("each", "x", ("iota", TWO), ("each", "y", ("iota", ONE), ("sum", V)))
        # The outer body: 1, iota 3, size 2, 2 times (1 + 3), and the sum 2 + 3.
        self.takes(NUMS, ROWS, body, ([1, 2], 1 + 4 + 3 + 3 * (1 + 3) + 2 * (1 + 3 + 2 + 8 + 5)))

    def test_pairs_as_free_variables(self):
        body = ("each", "x", SECOND, ("first", V))
        self.takes(both(POINT, NUMS), seq(POINT), body, (((1, 2), [3]), 1 + 2 + 2 + 2 * (1 + 4) + 2))

    def test_a_branch_in_a_loop(self):
        body = ("each", "x", V, ("if", op("<", X, num(6)), X, ("len", V)))
        # The if: 1, 3, x 1, v 3, the result 1, and the branch 1 or 2.
        self.takes(NUMS, NUMS, body, ([5, 6], 1 + 1 + 3 + 3 * (1 + 3) + 10 + 11))


class Recursion(WorkCase):
    def test_a_function_that_calls_itself(self):
        body = ("if", V, op("+", V, ("call", "f", op("-", V, ONE))), num(0))
        # At 0: 1, 1, 1, v 1, 0, 1. Otherwise 1, 1, v 1, 0, 1, and 1 + 1 + 1 + 3 for the branch.
        self.takes(NUM, NUM, body, (0, 5), (1, 15), (2, 25), (39, 395))

    def test_an_argument_that_grows(self):
        body = ("if", op("<", ("len", V), num(4)), ("call", "f", ("append", V, V)), V)
        # With one element: 1, 4, v 2 twice, the call 1, the append 3 + 4, the result 5.
        one = 1 + 4 + 4 + 1 + 7 + 5
        two = 1 + 4 + 6 + 1 + 9 + 5
        four = 1 + 4 + 10 + 1 + 5
        self.takes(NUMS, NUMS, body, ([7] * 4, four), ([7] * 2, two + four), ([7], one + two + four))

    def test_work_does_not_go_from_one_run_to_the_next(self):
        program = [function("f", NUM, NUM, op("+", V, ONE))]
        self.assertEqual([evaluate(program, "f", k)[1] for k in range(3)], [3, 3, 3])

    def test_a_large_run(self):
        body = ("each", "x", ("iota", V), ("each", "y", ("iota", V), op("*", X, Y)))
        inner = 1 + (2 + 300) + 301 + 301 * 2 + 300 * 3
        self.assertEqual(self.work(NUM, ROWS, body, 300), 1 + 302 + 301 + 301 * 2 + 300 * inner)

    def test_a_large_value_is_not_gone_through_for_each_step(self):
        """Half a million numbers, measured a thousand times."""
        names = ("let", "w", ("append", V, V), ("each", "x", ("iota", num(1000)), ("if", X, X, ("len", var("w")))))
        row = [0] * 250000
        work = self.work(NUMS, NUMS, names, row)
        append = 1 + 1 + 1 + 2 * 250001
        branches = 999 * (1 + 1 + 1) + (1 + 1 + 2) + 1000 * (1 + 500001 + 1)
        self.assertEqual(work, 1 + append + 1 + 1002 + 1001 + 1001 * (1 + 500001) + branches)


if __name__ == "__main__":
    unittest.main()
