"""Runs of blocks that are written by hand, with steps and touches counted by hand."""

import copy
import unittest

from building import HIGH, LOW, NUM, NUMS, POINT, ROWS, block, both, seq
from flatsheaves.errors import FlatError, TrapError
from flatsheaves.machine import run

# A block, values, and what a run gives: results, steps and touches.
CASES = [
    # fill: 3 items of register 0, and 3.
    ([block([("fill", 9, [0], [2])], [2])], [4, 5, 6], [9, 9, 9], 1, 6),
    # calc: 2 + 2 + 2.
    ([block([("calc", "-", [1, 2], [3])], [3], POINT)], [(5, 3), (LOW, 1)], [2, HIGH], 1, 6),
    # take: the vectors 1 and 0, and 3 items.
    ([block([("take", None, [1, 0], [2])], [2])], [7, 8, 9], [7, 8, 9], 1, 9),
    # pick of the elements of lane i: 2 lengths, 2 lanes, 5 indexes; take: 3 items, 5 indexes, 5 items; take: 2, 2, 2.
    ([block([("pick", None, [1, 3], [4]), ("take", None, [2, 4], [5]), ("take", None, [1, 3], [6])], [6, 5],
            both(NUMS, NUM), NUMS)], [([7, 8], 0), ([9], 1)], [[7, 8], [9]], 3, 2 + 2 + 3 + 3 + 3 + 3 + 2 + 2 + 2),
    # repeat: 3 lengths, 3 items.
    ([block([("repeat", None, [1], [3])], [1, 3], NUMS, NUMS)], [[5, 5], [], [6]], [[0, 0], [], [2]], 1, 6),
    # count: 3 lengths, 4 items.
    ([block([("count", None, [1], [3])], [1, 3], NUMS, NUMS)], [[5, 5, 5], [], [6]], [[0, 1, 2], [], [0]], 1, 7),
    # where: 3 items, 2 indexes; fill: 1 item, 1 item; sums of the flags: 3 + 3, then 1 + 3 + 1.
    ([block([("where", True, [2], [3]), ("flags", None, [2], [4]), ("sums", None, [1, 4], [5])], [5, 3], NUMS, NUMS)],
     [[7, 0, -1]], [[0, 2]], 3, 5 + 6 + 5),
    # where with False: 3 items, 1 index.
    ([block([("where", False, [2], [3]), ("fill", 1, [0], [4])], [4, 3], NUMS, NUMS)], [[7, 0, -1]], [[1]], 2, 4 + 2),
    # weave: 4 + 4.
    ([block([("weave", None, [1], [2])], [2])], [0, 5, 0, -5], [2, 0, 3, 1], 1, 8),
    # join: 2 + 2 + 4; fill: 2 + 2.
    ([block([("join", None, [1, 2], [3]), ("fill", 2, [0], [4])], [4, 3], POINT, NUMS)], [(1, 2), (3, 4)],
     [[1, 3], [2, 4]], 2, 8 + 4),
    # sums: 3 lengths, 3 items, 3 sums.
    ([block([("sums", None, [1, 2], [3])], [3], NUMS)], [[HIGH, 1], [], [5]], [LOW, 0, 5], 1, 9),
    # zip: 2 + 2 + 5; calc: 2 + 2 + 2.
    ([block([("zip", None, [1, 3], [5]), ("calc", "+", [1, 3], [6])], [6, 5], both(NUMS, NUMS), NUMS)],
     [([7], [8, 8]), ([9, 9], [])], [[0, 3, 4], [1, 2]], 2, 9 + 6),
    # place: 2 + 2 + 2; take: 3 + 2 + 2.
    ([block([("place", None, [1, 3], [4]), ("take", None, [2, 4], [5])], [5], both(NUMS, NUM))],
     [([7, 8], 1), ([9], 0)], [8, 9], 2, 6 + 7),
    # range: 3 + 3.
    ([block([("range", None, [1], [2])], [2])], [0, 1000, 5], [0, 1000, 5], 1, 6),
    # same: 2 + 2 + 2.
    ([block([("same", None, [1, 2], [3])], [3], POINT)], [(3, 3), (4, 4)], [3, 4], 1, 6),
    # flags: 3 + 3.
    ([block([("flags", None, [1], [2])], [2])], [0, 5, LOW], [0, 1, 1], 1, 6),
    # A vector that stands twice among the inputs counts twice.
    ([block([("calc", "*", [1, 1], [2])], [2])], [3, 4], [9, 16], 1, 6),
    ([block([("join", None, [1, 1], [2]), ("fill", 2, [0], [3])], [3, 2], NUM, NUMS)], [3], [[3, 3]], 2, 4 + 2),
    # Register 0 holds the numbers from 0 on.
    ([block([], [0])], [7, 7, 7], [0, 1, 2], 0, 0),
    ([block([], [1])], [7, 8], [7, 8], 0, 0),
    # A register can stand several times among the results.
    ([block([], [1, 1], NUM, POINT)], [7, 8], [(7, 7), (8, 8)], 0, 0),
    # No instruction is left out because nobody uses its output.
    ([block([("fill", 1, [0], [2]), ("fill", 2, [2], [3])], [1])], [7, 8], [7, 8], 2, 8),
    # Registers need not be numbered without gaps.
    ([block([("fill", 1, [0], [50]), ("calc", "+", [50, 1], [7])], [7])], [7, 8], [8, 9], 2, 4 + 6),
]

DOUBLE = block([("calc", "+", [1, 1], [2])], [2], name="double")
LANES = block([], [0], name="lanes")


class ByHand(unittest.TestCase):
    def test_cases(self):
        for blocks, values, results, steps, touches in CASES:
            before = copy.deepcopy((blocks, values))
            self.assertEqual(run(blocks, "f", values), (results, steps, touches), blocks)
            self.assertEqual((blocks, values), before)

    def test_no_values(self):
        for blocks, _, _, _, _ in CASES:
            self.assertEqual(run(blocks, "f", []), ([], 0, 0))

    def test_kinds_of_what_comes_back(self):
        found = run(CASES[0][0], "f", [1])
        self.assertIs(type(found), tuple)
        self.assertIs(type(found[0]), list)
        self.assertEqual([type(part) for part in found[1:]], [int, int])

    def test_traps(self):
        cases = [
            (block([("calc", "/", [0, 1], [2])], [2]), [1, 0]),
            (block([("calc", "mod", [0, 1], [2])], [2]), [1, 0]),
            (block([("place", None, [1, 3], [4])], [4], both(NUMS, NUM)), [([7, 8], 1), ([9], 1)]),
            (block([("range", None, [1], [2])], [2]), [3, 1001]),
            (block([("range", None, [1], [2])], [2]), [3, -1]),
            (block([("same", None, [1, 2], [3])], [3], POINT), [(1, 1), (2, 3)]),
            # Also where nobody uses the output.
            (block([("range", None, [1], [2])], [1]), [1001]),
        ]
        for one, values in cases:
            with self.assertRaises(TrapError) as caught:
                run([one], "f", values)
            self.assertIsInstance(caught.exception, FlatError)
            self.assertEqual(run([one], "f", []), ([], 0, 0))


class Calls(unittest.TestCase):
    def test_a_call(self):
        """A call is a step and has no touches; the block that it runs has both."""
        main = block([("call", "double", [0, 1], [2]), ("fill", 1, [0], [3])], [2])
        for blocks in ([main, DOUBLE], [DOUBLE, main]):
            self.assertEqual(run(blocks, "f", [4, 5]), ([8, 10], 3, 6 + 4))
        self.assertEqual(run([main, DOUBLE], "double", [4, 5]), ([8, 10], 1, 6))

    def test_a_call_of_a_block_without_instructions(self):
        main = block([("call", "lanes", [1, 0], [2])], [2])
        self.assertEqual(run([main, LANES], "f", [7, -7]), ([7, -7], 1, 0))

    def test_register_0_is_the_first_input(self):
        """For the block that a run begins with it holds the numbers from 0 on."""
        main = block([("calc", "*", [1, 1], [2]), ("call", "lanes", [2, 1], [3])], [0, 3], NUM, POINT)
        self.assertEqual(run([main, LANES], "f", [5, 6]), ([(0, 25), (1, 36)], 2, 6))

    def test_an_empty_first_input(self):
        """It is a step, no block is run, and all outputs are empty."""
        code = [("where", True, [1], [2]), ("take", None, [1, 2], [3]), ("call", "split", [2, 3], [4, 5, 6]),
                ("join", None, [4, 6], [7]), ("fill", 1, [0], [8]), ("calc", "+", [8, 8], [9])]
        split = block([("range", None, [1], [2]), ("fill", 3, [0], [3])], [1, 2, 3], NUM, both(NUM, POINT), "split")
        # where 1 + 1, take 1 + 1 + 1, range 1 + 1, fill 1 + 1, join 1 + 1 + 2, fill 1 + 1, calc 1 + 1 + 1.
        self.assertEqual(run([block(code, [9, 7], NUM, NUMS), split], "f", [6]), ([[6, 3]], 6 + 2, 18))
        code[5] = ("fill", 0, [0], [9])
        # where 2, take 2, join 0, fill 2 + 2, fill 2 + 2.
        self.assertEqual(run([block(code, [9, 7], NUM, NUMS), split], "f", [0, 0]), ([[], []], 6, 12))

    def test_an_empty_first_input_beside_others_that_are_not(self):
        code = [("fill", 0, [0], [2]), ("where", True, [2], [3]), ("call", "f", [3, 1], [4])]
        self.assertEqual(run([block(code, [2])], "f", [1, 2]), ([0, 0], 3, 4 + 2))

    def test_nobody_is_asked_for_a_block_that_is_not_run(self):
        code = [("fill", 0, [0], [2]), ("where", True, [2], [3]), ("call", "nowhere", [3, 3], [4, 5])]
        self.assertEqual(run([block(code, [2])], "f", [1]), ([0], 3, 2 + 1))

    def test_sequences_through_calls(self):
        main = block([("call", "g", [0, 3, 1, 2], [4, 5, 6])], [5, 6, 4], both(NUMS, NUM), both(NUMS, NUM))
        turn = block([], [1, 2, 3], both(NUM, NUMS), both(NUM, NUMS), "g")
        values = [([1, 2], 3), ([], 4)]
        self.assertEqual(run([main, turn], "f", values), (values, 1, 0))

    def test_the_same_block_several_times(self):
        main = block([("call", "double", [0, k], [k + 1]) for k in (1, 2, 3)], [4])
        self.assertEqual(run([main, DOUBLE], "f", [1, 2, 3]), ([8, 16, 24], 6, 27))

    def countdown(self):
        """A block that calls itself for the lanes whose number is not 0."""
        code = [("where", True, [1], [2]), ("take", None, [1, 2], [3]), ("fill", 1, [2], [4]),
                ("calc", "-", [3, 4], [5]), ("call", "f", [2, 5], [6])]
        return [block(code, [1])]

    def test_the_40th_and_the_41st(self):
        # Each block makes five steps; with one lane, 8 touches and 2 of where, take, fill and calc; at last 2.
        results, steps, touches = run(self.countdown(), "f", [39])
        self.assertEqual((results, steps), ([39], 40 * 5))
        self.assertEqual(touches, 39 * (2 + 3 + 2 + 3) + (1 + 1))
        for values in ([40], [41], [-1], [0, 40], [40, 39]):
            with self.assertRaises(TrapError):
                run(self.countdown(), "f", values)
        self.assertEqual(run(self.countdown(), "f", [0, 39, 5])[:2], ([0, 39, 5], 40 * 5))

    def test_the_41st_with_an_empty_first_input(self):
        """It is not run, so it doesn't trap."""
        self.assertEqual(run(self.countdown(), "f", [39])[0], [39])

    def test_a_ring_of_two(self):
        ring = self.countdown()[0]
        ring = [("block", name, NUM, NUM, ring[4][:4] + [("call", other, [2, 5], [6])], [1])
                for name, other in (("f", "g"), ("g", "f"))]
        for name in ("f", "g"):
            self.assertEqual(run(ring, name, [39])[:2], ([39], 200))
            with self.assertRaises(TrapError):
                run(ring, name, [40])

    def test_blocks_that_have_ended_do_not_count(self):
        code = [("call", "double", [0, k + 1], [k + 2]) for k in range(100)]
        main = block(code + [("call", "double", [0, 1], [200])], [200])
        self.assertEqual(run([main, DOUBLE], "f", [1, 5])[:2], ([2, 10], 202))
        # Nor do they make room for others: the call of the last block inside is the 40th, or the 41st.
        code = self.countdown()[0][4]
        busy = block([("call", "double", [0, 1], [7]), ("call", "double", [0, 7], [8]), *code], [1])
        self.assertEqual(run([busy, DOUBLE], "f", [38])[:2], ([38], 39 * (7 + 2)))
        with self.assertRaises(TrapError):
            run([busy, DOUBLE], "f", [39])

    def test_a_run_after_a_trap(self):
        blocks = self.countdown()
        with self.assertRaises(TrapError):
            run(blocks, "f", [40])
        self.assertEqual(run(blocks, "f", [39])[0], [39])

    def test_deep_kinds(self):
        kind, value = NUMS, [5, 6]
        for _ in range(3000):
            kind, value = seq(kind), [value]
        many = 3002
        main = block([("call", "g", list(range(many + 1)), list(range(many + 1, 2 * many + 1)))],
                     list(range(many + 1, 2 * many + 1)), kind, kind)
        results, steps, touches = run([main, block([], list(range(1, many + 1)), kind, kind, "g")], "f", [value])
        self.assertEqual((steps, touches), (1, 0))
        for _ in range(3000):
            self.assertEqual(len(results), 1)
            results = results[0]
        self.assertEqual(results, [[5, 6]])


class ManyLanes(unittest.TestCase):
    def test_rows(self):
        """The sum of each row of each value, by two instructions for all of them."""
        one = block([("sums", None, [2, 3], [4])], [1, 4], ROWS, NUMS)
        values = [[[k, j] for j in range(k)] for k in range(50)]
        results = [[k + j for j in range(k)] for k in range(50)]
        rows = sum(range(50))
        self.assertEqual(run([one], "f", values), (results, 1, rows + 2 * rows + rows))


if __name__ == "__main__":
    unittest.main()
