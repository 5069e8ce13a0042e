"""Where `evaluate` raises TrapError, and where it does not, at the edges that point 7 names."""

import copy
import unittest

from building import HIGH, LOW, NUM, NUMS, ONE, POINT, ROWS, TRAP, V, X, both, function, num, op
from flatsheaves.errors import FlatError, TrapError
from flatsheaves.kinds import check
from flatsheaves.plain import evaluate

FIRST = ("first", V)
SECOND = ("second", V)


class TrapCase(unittest.TestCase):
    def result(self, given, result, body, value):
        return self.result_in([function("f", given, result, body)], "f", value)

    def result_in(self, program, name, value):
        check(program)
        return evaluate(program, name, value)[0]

    def traps(self, given, result, body, *values):
        for value in values:
            self.traps_in([function("f", given, result, body)], "f", value)

    def traps_in(self, program, name, value):
        check(program)
        before = copy.deepcopy((program, value))
        with self.assertRaises(TrapError) as caught:
            evaluate(program, name, value)
        self.assertIsInstance(caught.exception, FlatError)
        self.assertEqual((program, value), before)


class Operations(TrapCase):
    def test_division_and_remainder_by_0(self):
        for sign in ("/", "mod"):
            self.traps(POINT, NUM, op(sign, FIRST, SECOND), (1, 0), (0, 0), (LOW, 0), (HIGH, 0))
            self.assertEqual(self.result(POINT, NUM, op(sign, FIRST, SECOND), (0, 1)), 0)

    def test_the_others_by_0(self):
        for sign in ("+", "-", "*", "min", "max", "<", "="):
            self.result(POINT, NUM, op(sign, FIRST, SECOND), (1, 0))

    def test_a_wrapped_0(self):
        self.traps(NUM, NUM, op("/", V, op("*", num(65536), num(65536))), 5)

    def test_iota(self):
        self.traps(NUM, NUMS, ("iota", V), -1, 1001, LOW, HIGH)
        self.assertEqual(self.result(NUM, NUMS, ("iota", V), 0), [])
        self.assertEqual(self.result(NUM, NUMS, ("iota", V), 1000), list(range(1000)))

    def test_at(self):
        self.traps(both(NUMS, NUM), NUM, ("at", FIRST, SECOND), ([4, 5, 6], -1), ([4, 5, 6], 3), ([4, 5, 6], -3),
                   ([4, 5, 6], LOW), ([4, 5, 6], HIGH), ([], 0), ([], -1))
        self.assertEqual(self.result(both(NUMS, NUM), NUM, ("at", FIRST, SECOND), ([4, 5, 6], 2)), 6)
        self.assertEqual(self.result(both(NUMS, NUM), NUM, ("at", FIRST, SECOND), ([4, 5, 6], 0)), 4)
        self.traps(both(ROWS, NUM), NUMS, ("at", FIRST, SECOND), ([[]], 1), ([[1, 2, 3]], 1))

    def test_keep(self):
        body = ("keep", FIRST, SECOND)
        self.traps(both(NUMS, NUMS), NUMS, body, ([1, 2], [1]), ([1], [1, 1]), ([], [0]), ([1], []), ([], [1, 1]))
        self.assertEqual(self.result(both(NUMS, NUMS), NUMS, body, ([], [])), [])
        self.traps(both(ROWS, NUMS), ROWS, body, ([[1, 2]], [1, 1]))

    def test_what_does_not_trap(self):
        self.assertEqual(self.result(NUMS, NUM, ("sum", V), []), 0)
        self.assertEqual(self.result(ROWS, NUMS, ("flat", V), []), [])
        self.assertEqual(self.result(NUMS, NUMS, ("append", V, V), []), [])
        self.assertEqual(self.result(NUMS, NUM, ("len", V), []), 0)


class Parts(TrapCase):
    """A trap in a part is a trap of the whole, wherever the part stands."""

    def test_in_every_part(self):
        trap_row = ("iota", TRAP)
        nums = [op("+", TRAP, V), op("+", V, TRAP), ("let", "x", TRAP, V), ("let", "x", V, TRAP),
                ("first", ("pair", TRAP, V)), ("first", ("pair", V, TRAP)), ("second", ("pair", TRAP, V)),
                ("if", TRAP, V, V), ("if", ONE, TRAP, V), ("if", num(0), V, TRAP),
                ("len", trap_row), ("sum", trap_row), ("len", ("each", "x", trap_row, X)),
                ("len", ("each", "x", ("iota", ONE), TRAP)), ("at", trap_row, num(0)),
                ("at", ("iota", ONE), TRAP), ("len", ("append", trap_row, ("iota", ONE))),
                ("len", ("append", ("iota", ONE), trap_row)), ("len", ("keep", trap_row, ("iota", num(0)))),
                ("len", ("keep", ("iota", num(0)), trap_row)),
                ("len", ("flat", ("each", "x", ("iota", ONE), trap_row)))]
        for body in nums:
            self.traps(NUM, NUM, body, 5)
        program = [function("f", NUM, NUM, ("call", "g", TRAP)), function("g", NUM, NUM, ONE)]
        self.traps_in(program, "f", 5)
        program = [function("f", NUM, NUM, ("call", "g", V)), function("g", NUM, NUM, TRAP)]
        self.traps_in(program, "f", 5)

    def test_for_one_of_many(self):
        body = ("each", "x", V, op("/", num(12), X))
        self.traps(NUMS, NUMS, body, [0], [1, 2, 0], [0, 1], [1, 0, 2])
        self.assertEqual(self.result(NUMS, NUMS, body, [1, 2, -5]), [12, 6, -3])
        self.traps(ROWS, ROWS, ("each", "x", V, ("append", X, ("iota", ("at", X, num(0))))), [[1], []])

    def test_a_branch_that_is_not_taken(self):
        self.assertEqual(self.result(NUM, NUM, ("if", V, ONE, TRAP), 1), 1)
        self.assertEqual(self.result(NUM, NUM, ("if", V, TRAP, ONE), 0), 1)
        guarded = ("if", ("len", V), op("/", ("sum", V), ("len", V)), num(-1))
        self.assertEqual(self.result(NUMS, NUM, guarded, []), -1)
        self.assertEqual(self.result(NUMS, NUM, guarded, [3, 6]), 4)
        for trap in (TRAP, ("len", ("iota", num(1001))), ("at", ("iota", ONE), ONE), op("mod", ONE, num(0)),
                     ("len", ("keep", ("iota", ONE), ("iota", num(0)))), ("call", "f", ONE)):
            self.assertEqual(self.result(NUM, NUM, ("if", V, trap, V), 0), 0)

    def test_in_one_lane_only(self):
        body = ("each", "x", V, ("if", X, op("/", num(12), X), num(0)))
        self.assertEqual(self.result(NUMS, NUMS, body, [0, 3, 0, 4]), [0, 4, 0, 3])

    def test_a_body_that_is_not_evaluated(self):
        self.assertEqual(self.result(NUMS, NUMS, ("each", "x", V, TRAP), []), [])


def countdown(name, other):
    """A function that makes v + 1 calls inside of each other, its own one included."""
    return function(name, NUM, NUM, ("if", V, ("call", other, op("-", V, ONE)), V))


class Calls(TrapCase):
    def test_the_40th_and_the_41st(self):
        program = [countdown("f", "f")]
        self.assertEqual(self.result_in(program, "f", 39), 0)
        self.traps_in(program, "f", 40)
        self.traps_in(program, "f", 41)
        self.traps_in(program, "f", -1)

    def test_a_ring_of_two(self):
        program = [countdown("f", "g"), countdown("g", "f")]
        for name in ("f", "g"):
            self.assertEqual(self.result_in(program, name, 39), 0)
            self.traps_in(program, name, 40)

    def test_a_chain_of_many(self):
        program = [function(f"f{k}", NUM, NUM, ("call", f"f{k + 1}", V)) for k in range(45)]
        program.append(function("f45", NUM, NUM, op("+", V, ONE)))
        self.assertEqual(self.result_in(program, "f6", 1), 2)
        self.traps_in(program, "f5", 1)
        self.assertEqual(self.result_in(program, "f45", 1), 2)

    def test_without_an_end(self):
        self.traps(NUM, NUM, ("call", "f", V), 0)
        self.traps(NUM, NUM, op("+", ("call", "f", V), ("call", "f", V)), 0)
        self.traps(NUM, NUMS, ("each", "x", ("iota", ONE), ("sum", ("call", "f", X))), 0)

    def test_an_argument_is_no_inner_call(self):
        """The argument of a call is evaluated before that call begins."""
        double = ("call", "f", ("call", "f", op("-", V, ONE)))
        program = [function("f", NUM, NUM, ("if", op("<", num(0), V), double, V))]
        self.assertEqual(self.result_in(program, "f", 39), 0)
        self.traps_in(program, "f", 40)

    def test_calls_that_have_ended_do_not_count(self):
        body = op("+", ("call", "f", V), ("call", "f", V))
        for _ in range(5):
            body = op("+", body, body)
        program = [function("main", NUM, NUM, body), countdown("f", "f")]
        self.assertEqual(self.result_in(program, "main", 38), 0)
        self.traps_in(program, "main", 39)

    def test_in_a_loop(self):
        program = [function("main", NUMS, NUMS, ("each", "x", V, ("call", "f", X))), countdown("f", "f")]
        self.assertEqual(self.result_in(program, "main", [38, 0, 38]), [0, 0, 0])
        self.traps_in(program, "main", [38, 0, 39])
        self.traps_in(program, "main", [39, 0])

    def test_the_41st_in_branches(self):
        """At the 40th call both branches hold another call; none of them is made, or one is."""
        inner = ("if", op("=", V, num(0)), num(7), ("call", "f", op("-", V, ONE)))
        body = ("if", op("<", V, num(-5)), ("call", "f", ONE), inner)
        program = [function("f", NUM, NUM, body)]
        self.assertEqual(self.result_in(program, "f", 39), 7)
        self.traps_in(program, "f", 40)
        both_call = ("if", ("second", V), ("call", "f", ("pair", op("-", FIRST, ONE), SECOND)),
                     ("call", "g", V))
        program = [function("f", POINT, NUM, ("if", FIRST, both_call, num(3))), function("g", POINT, NUM, ONE)]
        self.assertEqual(self.result_in(program, "f", (39, 1)), 3)
        self.traps_in(program, "f", (40, 1))
        self.assertEqual(self.result_in(program, "f", (40, 0)), 1)

    def test_the_41st_in_the_branch_that_is_not_taken(self):
        last = ("if", op("<", V, num(39)), ("call", "f", op("+", V, ONE)), ("if", ONE, V, ("call", "f", V)))
        self.assertEqual(self.result_in([function("f", NUM, NUM, last)], "f", 0), 39)
        last = ("if", op("<", V, num(39)), ("call", "f", op("+", V, ONE)), ("if", num(0), ("call", "f", V), V))
        self.assertEqual(self.result_in([function("f", NUM, NUM, last)], "f", 0), 39)
        self.traps_in([function("f", NUM, NUM, last)], "f", -1)

    def test_a_run_after_a_trap(self):
        program = [countdown("f", "f")]
        self.traps_in(program, "f", 40)
        self.assertEqual(self.result_in(program, "f", 39), 0)


if __name__ == "__main__":
    unittest.main()
