"""Point 1 for every function: no argument is modified, and what is returned shares no list with an argument."""

import copy
import unittest

from building import NUM, NUMS, POINT, ROWS, V, block, both, function, num, op, spoil
from drawn import drawn, outcome
from flatsheaves.errors import KindError, PaperError, TrapError
from flatsheaves.flatten import flatten
from flatsheaves.kinds import check, free_names
from flatsheaves.layouts import values_of, vectors_of
from flatsheaves.machine import run
from flatsheaves.numbers import calculate, wrapped
from flatsheaves.passes import improve, rewrite
from flatsheaves.plain import evaluate, size
from flatsheaves.slots import fewest, live, plan, plan_right, run_slots
from flatsheaves.vectors import execute


def containers(value):
    """The identities of all lists and dicts in a value."""
    found = []
    waiting = [value]
    while waiting:
        part = waiting.pop()
        if isinstance(part, (list, dict)):
            found.append(id(part))
        if isinstance(part, dict):
            waiting.extend(part.values())
        elif isinstance(part, (list, tuple)):
            waiting.extend(part)
    return found


class SharingCase(unittest.TestCase):
    def call(self, of, *arguments):
        """Call a function, look at its arguments, spoil its result, and look at them once more."""
        before = copy.deepcopy(arguments)
        try:
            result = of(*arguments)
        except (KindError, PaperError, TrapError):
            result = []
        self.assertEqual(arguments, before)
        self.assertEqual(set(containers(result)) & set(containers(arguments)), set(), of)
        given_back = copy.deepcopy(result)
        spoil(result)
        self.assertEqual(arguments, before)
        return given_back


class Functions(SharingCase):
    def test_what_is_given_back_as_it_is(self):
        same = {NUMS: [[1, 2], []], ROWS: [[[1], []], []], both(ROWS, POINT): [([[1]], (2, 3))]}
        for kind, values in same.items():
            program = [function("f", kind, kind, V), function("g", kind, kind, ("call", "f", V)),
                       function("h", kind, both(kind, kind), ("pair", V, V)),
                       function("i", kind, kind, ("if", num(1), V, V)), function("j", kind, both(NUMS, kind),
                                                                                ("pair", ("iota", num(2)), V))]
            self.call(check, program)
            self.call(flatten, program)
            blocks = flatten(program)
            plans = {one[1]: plan(one) for one in blocks}
            for name in "fghij":
                self.call(run, blocks, name, values)
                self.call(run_slots, blocks, plans, name, values)
                for value in values:
                    self.call(evaluate, program, name, value)

    def test_a_part_of_what_was_given(self):
        value = [([[1], [2, 3]], ([4], 5)), ([], ([], 6))]
        kind = both(ROWS, both(NUMS, NUM))
        for result, body in ((ROWS, ("first", V)), (NUMS, ("first", ("second", V))), (NUMS, ("flat", ("first", V))),
                             (ROWS, ("append", ("first", V), ("first", V))),
                             (ROWS, ("keep", ("first", V), ("each", "x", ("first", V), num(1))))):
            program = [function("f", kind, result, body)]
            blocks = self.call(flatten, program)
            self.call(run, blocks, "f", value)
            self.call(run_slots, blocks, {"f": plan(blocks[0])}, "f", value)
            self.call(evaluate, program, "f", value[0])

    def test_vectors(self):
        vector, lengths = [1, 0, 2], [2, 1]
        cases = [("fill", 3, [vector]), ("calc", "+", [vector, vector]), ("take", None, [vector, [0]]),
                 ("pick", None, [lengths, [1]]), ("repeat", None, [lengths]), ("count", None, [lengths]),
                 ("where", True, [vector]), ("weave", None, [vector]), ("join", None, [vector, []]),
                 ("join", None, [[], vector]), ("sums", None, [lengths, vector]), ("zip", None, [lengths, lengths]),
                 ("place", None, [lengths, [0, 0]]), ("range", None, [vector]), ("range", None, [[-1]]),
                 ("same", None, [vector, vector]), ("same", None, [vector, []]), ("flags", None, [vector])]
        for name, extra, inputs in cases:
            self.call(execute, name, extra, inputs)

    def test_layouts_and_sizes(self):
        for kind, values in ((NUM, [1, 2]), (NUMS, [[1, 2], []]), (both(NUMS, ROWS), [([1], [[2], []])]), (NUM, [])):
            vectors = self.call(vectors_of, kind, values)
            self.call(values_of, kind, vectors)
            self.call(size, values)

    def test_numbers_and_names(self):
        self.assertEqual(self.call(wrapped, 5), 5)
        self.assertEqual(self.call(calculate, "+", 5, 6), 11)
        self.assertEqual(self.call(free_names, op("+", V, ("var", "x"))), ["v", "x"])

    def test_blocks(self):
        code = [("fill", 1, [0], [2]), ("fill", 1, [0], [3]), ("call", "g", [0, 1], [4, 5]), ("fill", 2, [0], [6])]
        blocks = [block(code, [3, 3], NUM, POINT), block([], [1, 1], NUM, POINT, "g"), block([], [1], name="h")]
        for paper in ([], [("share", "f", 1, 0)], [("drop", "f", 3)], [("drop", "f", 0), ("drop", "f", 0)]):
            self.call(rewrite, blocks, paper)
        self.call(improve, blocks)
        for one in blocks:
            slots = self.call(plan, one)
            for of in (live, fewest):
                self.call(of, one)
            self.call(plan_right, one, slots)
            self.call(plan_right, one, {})

    def test_drawn_programs(self):
        for one in drawn()[::5]:
            blocks = self.call(flatten, one.program)
            paper = self.call(improve, blocks)
            better = self.call(rewrite, blocks, paper)
            self.call(run, better, one.name, one.good)
            self.call(run, better, one.name, one.values)
            plans = {}
            for block_one in better:
                plans[block_one[1]] = self.call(plan, block_one)
                self.call(live, block_one)
                self.call(fewest, block_one)
                self.call(plan_right, block_one, plans[block_one[1]])
            self.call(run_slots, better, plans, one.name, one.good)
            self.call(run_slots, better, plans, one.name, one.values)
            for value in one.values:
                self.call(evaluate, one.program, one.name, value)

    def test_twice_the_same(self):
        """Nothing is kept from one call to the next."""
        for one in drawn()[::20]:
            first = flatten(one.program)
            spoil(first)
            self.assertEqual(flatten(one.program), one.blocks)
            for _ in range(2):
                self.assertEqual(run(one.blocks, one.name, one.good), run(one.blocks, one.name, one.good))
                self.assertEqual(outcome(run, one.blocks, one.name, one.values) == "trap", "trap" in one.outcomes)


if __name__ == "__main__":
    unittest.main()
