"""Touches and steps of flattened programs that are deep, wide or large; and programs nested very deep."""

import unittest

from building import NUM, NUMS, ONE, ROWS, TWO, V, X, Y, both, function, num, op, seq
from flatsheaves.flatten import flatten
from flatsheaves.kinds import check
from flatsheaves.layouts import vectors_of
from flatsheaves.machine import run
from flatsheaves.passes import improve, rewrite
from flatsheaves.plain import evaluate
from flatsheaves.slots import fewest, live, plan, plan_right, run_slots
from reference import counted

FIRST = ("first", V)
SECOND = ("second", V)


class CostCase(unittest.TestCase):
    def costs(self, given, result, body, values):
        return self.costs_in([function("f", given, result, body)], "f", values)

    def costs_in(self, program, name, values):
        """Check results and touches, and return the blocks, the steps and the touches."""
        check(program)
        blocks = flatten(program)
        plain = [evaluate(program, name, value) for value in values]
        results, steps, touches = run(blocks, name, values)
        self.assertEqual(results, [result for result, _ in plain])
        self.assertLessEqual(touches, 30 * sum(work for _, work in plain))
        return blocks, steps, touches


class Large(CostCase):
    def test_a_large_sequence(self):
        row = list(range(20000))
        for body in (("each", "x", V, op("*", X, X)), ("keep", V, V), ("append", V, V),
                     ("flat", ("each", "x", V, ("append", ("iota", op("mod", X, TWO)), ("iota", ONE)))),
                     ("if", ("len", V), V, ("iota", ONE))):
            self.costs(NUMS, NUMS, body, [row, [], row])
        for body in (("sum", V), ("len", V), ("at", V, num(17))):
            self.costs(NUMS, NUM, body, [row, row[:20]])

    def test_a_large_sequence_that_is_hardly_used(self):
        """What is not touched by the plain meaning is not touched by the run either."""
        rows = [[k] * 100 for k in range(300)]
        kind = both(NUM, ROWS)
        for body in (FIRST, ("len", SECOND), ("first", ("pair", FIRST, SECOND)), ("let", "x", SECOND, FIRST),
                     ("first", ("let", "x", SECOND, ("pair", FIRST, ("pair", X, X)))),
                     ("len", ("each", "x", SECOND, ONE)), ("len", ("each", "x", SECOND, X))):
            _, _, touches = self.costs(kind, NUM, body, [(1, rows)])
            self.assertLess(touches, 2000)

    def test_a_variable_in_an_each_over_something_else(self):
        wide = seq(both(NUMS, ROWS))
        value = [([1] * 30, [[k] * 5 for k in range(10)]) for _ in range(10)]
        for loop in (("iota", num(0)), ("iota", ONE), ("iota", num(50))):
            self.costs(wide, seq(wide), ("each", "x", loop, V), [value, [], value])
            self.costs(wide, NUMS, ("each", "x", loop, ("len", V)), [value, [], value])
            self.costs(wide, ROWS, ("each", "x", loop, ("each", "y", ("iota", ONE), ("len", V))), [value, []])

    def test_branches_that_no_value_takes(self):
        heavy = ("each", "x", ("iota", num(1000)), ("each", "y", ("iota", num(1000)), op("*", X, Y)))
        body = ("if", V, ("len", heavy), num(3))
        _, _, touches = self.costs(NUM, NUM, body, [0] * 10)
        self.assertLess(touches, 200)

    def test_many_branches(self):
        body = V
        for k in range(300):
            body = ("if", op("<", ("sum", V), num(k)), ("append", V, V), body)
        self.costs(NUMS, NUMS, body, [[k] for k in range(0, 300, 20)])

    def test_many_lanes_that_end_at_once(self):
        body = ("if", V, op("+", V, ("call", "f", op("-", V, ONE))), num(0))
        values = [0] * 5000 + [39]
        blocks, steps, _ = self.costs_in([function("f", NUM, NUM, body)], "f", values)
        self.assertLessEqual(steps, 40 * len(blocks[0][4]))

    def test_wide(self):
        kind, value, body = NUM, 1, V
        for _ in range(200):
            kind, value, body = both(NUMS, kind), ([4, 5], value), ("pair", ("iota", TWO), body)
        self.costs(kind, seq(kind), ("each", "x", ("iota", num(3)), V), [value, value])
        self.costs(kind, kind, ("if", ("sum", FIRST), ("at", ("each", "x", ("iota", TWO), V), ONE), V), [value])


class Steps(CostCase):
    def test_no_calls(self):
        body = ("each", "x", V, ("if", X, ("flat", ("each", "y", ("iota", X), ("iota", Y))), ("iota", num(0))))
        values = [[], [3, 0, 5], [0], [100] * 50]
        for row in ([values[0]], [values[3]], values, values * 20):
            blocks, steps, _ = self.costs(NUMS, ROWS, body, row)
            self.assertEqual(steps, len(blocks[0][4]))

    def test_calls_of_all_functions(self):
        program = [function("f", NUMS, NUM, op("+", ("sum", ("each", "x", V, ("call", "g", X))), ("call", "h", V))),
                   function("g", NUM, NUM, ("if", V, op("+", ("call", "h", ("iota", V)),
                                                        ("call", "h", ("iota", ONE))), V)),
                   function("h", NUMS, NUM, ("if", ("len", V), ("sum", V), num(4)))]
        for values in ([[]], [[0, 0], []], [[1, 2, 3], [4]], [[k % 7 for k in range(100)]] * 3):
            blocks, steps, _ = self.costs_in(program, "f", values)
            calls = sum(counted(program, "f", value)[2] for value in values)
            self.assertLessEqual(steps, calls * max(len(block[4]) for block in blocks))


class Deep(CostCase):
    """Nested far deeper than recursion goes."""

    MANY = 3000

    def nested(self, body, around):
        for _ in range(self.MANY):
            body = around(body)
        return body

    def test_expressions(self):
        for around in (lambda e: op("+", e, ONE), lambda e: op("+", ONE, e), lambda e: ("let", "x", e, X),
                       lambda e: ("let", "x", ONE, e), lambda e: ("if", V, e, ONE), lambda e: ("if", V, TWO, e),
                       lambda e: ("if", e, V, TWO), lambda e: ("sum", ("each", "x", ("iota", ONE), e)),
                       lambda e: ("len", ("each", "x", ("iota", e), X)), lambda e: ("first", ("pair", e, V))):
            self.costs(NUM, NUM, self.nested(V, around), [1, 0, 1])

    def test_rows(self):
        for around in (lambda e: ("append", e, ("iota", num(0))), lambda e: ("keep", e, V),
                       lambda e: ("flat", ("each", "x", ("iota", ONE), e)), lambda e: ("each", "x", e, X)):
            self.costs(NUMS, NUMS, self.nested(V, around), [[1, 1], []])

    def test_kinds(self):
        kind, value = NUMS, [1, 2]
        for _ in range(self.MANY):
            kind, value = seq(kind), [value]
        # Each of these gives the value again, which has one element: the numbers 0 and 1 keep the second of two.
        for body in (("each", "x", V, X), ("if", ("len", V), V, V), ("keep", ("append", V, V), ("iota", TWO)),
                     ("at", ("each", "x", ("iota", TWO), V), ONE), ("flat", ("each", "x", ("iota", ONE), V)),
                     ("call", "g", V)):
            program = [function("f", kind, kind, body), function("g", kind, kind, V)]
            blocks = flatten(program)
            results, _, _ = run(blocks, "f", [value, value])
            self.assertEqual(vectors_of(kind, results), vectors_of(kind, [value, value]))
            self.look_at(blocks, "f", kind, value)

    def look_at(self, blocks, name, kind, value):
        """The passes and the plans do not mind deep kinds."""
        expected = vectors_of(kind, [value])
        better = rewrite(blocks, improve(blocks))
        self.assertEqual(vectors_of(kind, run(better, name, [value])[0]), expected)
        plans = {block[1]: plan(block) for block in better}
        for block in better:
            self.assertTrue(plan_right(block, plans[block[1]]))
            self.assertEqual(len(set(plans[block[1]].values())), fewest(block)[0])
        self.assertEqual(vectors_of(kind, run_slots(better, plans, name, [value])), expected)

    def test_a_pair_that_is_doubled(self):
        """The pair would have 2**60 numbers, of which one is asked for."""
        doubled = self.doubling(("pair", V, op("+", V, ONE)), 60)
        self.costs(NUM, NUM, doubled, [5, 6])
        looped = ("sum", ("each", "y", ("iota", num(3)), self.doubling(("pair", V, Y), 60)))
        self.costs(NUM, NUM, looped, [5, 6])

    def doubling(self, pair, many):
        body = X
        for k in range(many):
            body = ("first" if k % 2 else "second", body)
        body = ("let", "x", ("if", V, X, X), ("let", "x", ("at", ("each", "z", ("iota", TWO), X), ONE), body))
        for _ in range(many - 1):
            body = ("let", "x", ("pair", X, X), body)
        return ("let", "x", pair, body)


class Size(unittest.TestCase):
    def test_a_large_block(self):
        """The functions on blocks take no step for each pair of instructions."""
        many = 20000
        code = [("fill", k % 100, [0], [k + 2]) for k in range(many)]
        code += [("calc", "+", [k + 2, k + 3], [many + k + 2]) for k in range(many - 1)]
        block = ("block", "f", NUM, NUM, code, [2 * many])
        paper = improve([block])
        # Of the numbers 100 are left, and one sum of two of them; nobody uses 98 of the numbers.
        self.assertEqual(len(paper), len(code) - 3)
        self.assertEqual(len(rewrite([block], paper)[0][4]), 3)
        slots = plan(block)
        self.assertTrue(plan_right(block, slots))
        self.assertEqual(len(set(slots.values())), fewest(block)[0])
        self.assertEqual(fewest(block), (many, many - 2))


if __name__ == "__main__":
    unittest.main()
