"""Calls in flattened programs, and where the 41st of them traps."""

import unittest

from building import NUM, NUMS, ONE, POINT, V, X, function, num, op
from flatsheaves.errors import TrapError
from flatsheaves.flatten import flatten
from flatsheaves.kinds import check
from flatsheaves.machine import run
from flatsheaves.plain import evaluate

FIRST = ("first", V)
SECOND = ("second", V)


def countdown(name, other):
    """A function that makes v + 1 calls inside of each other, its own one included."""
    return function(name, NUM, NUM, ("if", V, ("call", other, op("-", V, ONE)), num(7)))


class CallCase(unittest.TestCase):
    def gives(self, program, name, values, results):
        check(program)
        self.assertEqual([evaluate(program, name, value)[0] for value in values], results)
        self.assertEqual(run(flatten(program), name, values)[0], results)

    def traps(self, program, name, values, culprits):
        """The culprits among the values trap alone, and so do all together."""
        check(program)
        blocks = flatten(program)
        for value in culprits:
            with self.assertRaises(TrapError):
                evaluate(program, name, value)
            with self.assertRaises(TrapError):
                run(blocks, name, [value])
        with self.assertRaises(TrapError):
            run(blocks, name, values)
        rest = [value for value in values if value not in culprits]
        self.gives(program, name, rest, [evaluate(program, name, value)[0] for value in rest])


class Limit(CallCase):
    def test_the_40th_and_the_41st(self):
        program = [countdown("f", "f")]
        self.gives(program, "f", [39, 0, 5, 39], [7, 7, 7, 7])
        self.traps(program, "f", [39, 40, 0], [40])
        self.traps(program, "f", [3, -1], [-1])

    def test_rings(self):
        for many in (2, 3, 5):
            program = [countdown(f"f{k}", f"f{(k + 1) % many}") for k in range(many)]
            for name in ("f0", f"f{many - 1}"):
                self.gives(program, name, [39, 38, 0], [7, 7, 7])
                self.traps(program, name, [39, 40], [40])

    def test_without_an_end(self):
        for body in (("call", "f", V), op("+", ("call", "f", V), ("call", "f", V)),
                     ("sum", ("each", "x", ("iota", ONE), ("call", "f", X)))):
            self.traps([function("f", NUM, NUM, body)], "f", [0], [0])

    def test_a_call_that_no_value_makes(self):
        """Functions without an end, where nobody begins."""
        program = [function("f", NUM, NUM, ("if", V, ("call", "f", V), num(3)))]
        self.gives(program, "f", [0, 0], [3, 3])
        self.traps(program, "f", [0, 1], [1])
        program = [function("f", NUMS, NUMS, ("each", "x", V, ("sum", ("call", "f", ("append", V, V)))))]
        self.gives(program, "f", [[], []], [[], []])

    def test_in_a_branch_of_the_40th(self):
        last = ("if", op("<", V, num(39)), ("call", "f", op("+", V, ONE)), ("if", num(0), ("call", "f", V), V))
        self.gives([function("f", NUM, NUM, last)], "f", [0, 20, 39], [39, 39, 39])
        self.traps([function("f", NUM, NUM, last)], "f", [0, -1], [-1])
        last = ("if", op("<", V, num(39)), ("call", "f", op("+", V, ONE)), ("if", ONE, V, ("call", "f", V)))
        self.gives([function("f", NUM, NUM, last)], "f", [0, 20, 39], [39, 39, 39])

    def test_both_branches_call(self):
        deep = ("if", SECOND, ("call", "f", ("pair", op("-", FIRST, ONE), SECOND)), ("call", "g", V))
        program = [function("f", POINT, NUM, ("if", FIRST, deep, num(3))), function("g", POINT, NUM, ONE)]
        self.gives(program, "f", [(39, 1), (40, 0), (0, 1)], [3, 1, 3])
        self.traps(program, "f", [(39, 1), (40, 1), (40, 0)], [(40, 1)])

    def test_in_a_loop(self):
        program = [function("f", NUMS, NUMS, ("each", "x", V, ("call", "g", X))), countdown("g", "g")]
        self.gives(program, "f", [[38, 0], [], [1]], [[7, 7], [], [7]])
        self.traps(program, "f", [[38, 0], [], [39]], [[39]])

    def test_a_loop_in_a_loop_of_calls(self):
        body = ("if", V, ("sum", ("each", "x", ("iota", V), ("call", "f", X))), ONE)
        self.gives([function("f", NUM, NUM, body)], "f", [0, 1, 2, 5, 9], [1, 1, 2, 16, 256])

    def test_calls_that_have_ended_do_not_count(self):
        body = ("call", "g", V)
        for _ in range(60):
            body = op("+", body, ("call", "g", V))
        program = [function("f", NUM, NUM, body), countdown("g", "g")]
        self.gives(program, "f", [38, 0], [61 * 7, 61 * 7])
        self.traps(program, "f", [38, 39], [39])

    def test_an_argument_is_no_inner_call(self):
        double = ("call", "f", ("call", "f", op("-", V, ONE)))
        program = [function("f", NUM, NUM, ("if", op("<", num(0), V), double, V))]
        self.gives(program, "f", [39, 3], [0, 0])
        self.traps(program, "f", [39, 40], [40])

    def test_a_chain_of_many(self):
        program = [function(f"f{k}", NUM, NUM, ("call", f"f{k + 1}", V)) for k in range(45)]
        program.append(function("f45", NUM, NUM, op("+", V, ONE)))
        self.gives(program, "f6", [1, 2], [2, 3])
        self.traps(program, "f5", [1, 2], [1, 2])

    def test_lanes_that_end_sooner(self):
        power = ("if", V, op("*", num(2), ("call", "f", op("-", V, ONE))), ONE)
        values = [k % 31 for k in range(200)]
        self.gives([function("f", NUM, NUM, power)], "f", values, [2 ** value for value in values])


if __name__ == "__main__":
    unittest.main()
