"""Runs with slots: the results and the traps of runs with registers."""

import copy
import random
import unittest

from building import NUM, NUMS, ONE, POINT, V, block, function, op, spoil
from drawn import drawn, outcome, small
from flatsheaves.errors import TrapError
from flatsheaves.flatten import flatten
from flatsheaves.machine import run
from flatsheaves.passes import improve, rewrite
from flatsheaves.slots import plan, plan_right, run_slots
from steps import all_live, all_registers


def plans_of(blocks):
    return {block[1]: plan(block) for block in blocks}


def drawn_plan(one, chooser):
    """A right plan, in which each register takes any of the slots that are free for it."""
    rows = all_live(one)
    slots = {}
    for number in all_registers(one):
        barred = {slots[other] for row in rows if number in row for other in row if other in slots}
        slots[number] = chooser.choice([slot for slot in range(len(barred) + 3) if slot not in barred])
    return slots


class ByHand(unittest.TestCase):
    def test_the_example(self):
        one = block([("fill", 2, [0], [2]), ("calc", "+", [1, 2], [3])], [3])
        for slots in ({0: 0, 1: 1, 2: 0, 3: 0}, {0: 0, 1: 1, 2: 0, 3: 1}, {0: 5, 1: 3, 2: 9, 3: 5}):
            self.assertTrue(plan_right(one, slots))
            self.assertEqual(run_slots([one], {"f": slots}, "f", [5, 6]), [7, 8])
        self.assertIs(type(run_slots([one], {"f": slots}, "f", [5])), list)

    def test_an_output_takes_the_place_of_an_input(self):
        one = block([("calc", "-", [1, 2], [3]), ("calc", "*", [3, 3], [4]), ("join", None, [4, 0], [5]),
                     ("fill", 2, [4], [6])], [6, 5], POINT, NUMS)
        slots = {0: 0, 1: 1, 2: 2, 3: 2, 4: 2, 5: 0, 6: 2}
        self.assertTrue(plan_right(one, slots))
        self.assertEqual(run_slots([one], {"f": slots}, "f", [(9, 7), (1, 4)]), [[4, 9], [0, 1]])

    def test_outputs_of_a_call_take_the_places_of_inputs(self):
        turn = block([], [2, 1], POINT, POINT, "turn")
        one = block([("call", "turn", [0, 1, 2], [3, 4]), ("call", "turn", [0, 3, 4], [5, 6])], [3, 6], POINT, POINT)
        slots = {0: 0, 1: 1, 2: 2, 3: 1, 4: 2, 5: 0, 6: 2}
        self.assertTrue(plan_right(one, slots))
        plans = {"f": slots, "turn": {0: 2, 1: 0, 2: 1}}
        self.assertEqual(run_slots([one, turn], plans, "f", [(9, 7), (1, 4)]), [(7, 7), (4, 4)])

    def test_an_output_that_nobody_uses(self):
        """It takes the place of whatever was in its slot."""
        one = block([("fill", 3, [0], [2]), ("fill", 4, [1], [3]), ("fill", 5, [0], [4])], [0, 3], NUM, POINT)
        slots = {0: 0, 1: 1, 2: 2, 3: 2, 4: 1}
        self.assertTrue(plan_right(one, slots))
        self.assertEqual(run_slots([one], {"f": slots}, "f", [9, 9]), [(0, 4), (1, 4)])

    def test_blocks_that_are_run_inside_have_slots_of_their_own(self):
        body = ("if", V, op("+", V, ("call", "f", op("-", V, ONE))), V)
        blocks = flatten([function("f", NUM, NUM, body)])
        self.assertEqual(run_slots(blocks, plans_of(blocks), "f", [0, 3, 39]), [0, 6, 780])
        with self.assertRaises(TrapError):
            run_slots(blocks, plans_of(blocks), "f", [0, 40])

    def test_an_empty_first_input(self):
        code = [("where", True, [1], [2]), ("call", "g", [2, 2], [3, 4]), ("join", None, [3, 4], [5]),
                ("fill", 0, [0], [6])]
        one = block(code, [6, 5], NUM, NUMS)
        bad = block([("range", None, [1], [2])], [1, 2], NUM, POINT, "g")
        self.assertEqual(run_slots([one, bad], plans_of([one, bad]), "f", [0, 0]), [[], []])

    def test_a_slot_is_needed_only_for_blocks_that_are_run(self):
        one, other = block([], [1]), block([], [1], name="g")
        self.assertEqual(run_slots([other, one], {"f": {0: 0, 1: 1}}, "f", [3, 4]), [3, 4])

    def test_no_values(self):
        one = block([("range", None, [1], [2])], [2])
        self.assertEqual(run_slots([one], plans_of([one]), "f", []), [])

    def test_traps(self):
        for code in ([("range", None, [1], [2])], [("calc", "/", [1, 0], [2])], [("place", None, [0, 1], [2])],
                     [("same", None, [0, 1], [2])], [("calc", "mod", [0, 0], [2])]):
            one = block(code, [2])
            with self.assertRaises(TrapError):
                run_slots([one], plans_of([one]), "f", [1001, 5])

    def test_no_list_is_shared(self):
        one = block([], [1, 2], NUMS, NUMS)
        blocks, plans, values = [one], plans_of([one]), [[1, 2], [], [3]]
        before = copy.deepcopy((blocks, plans, values))
        for found in (run_slots(blocks, plans, "f", values), run(blocks, "f", values)):
            spoil(found)
            self.assertEqual((blocks, plans, values), before)


class Drawings(unittest.TestCase):
    def check_run(self, one, blocks, plans):
        for block_one in blocks:
            self.assertTrue(plan_right(block_one, plans[block_one[1]]))
        before = copy.deepcopy((blocks, plans, one.values))
        self.assertEqual(run_slots(blocks, plans, one.name, one.good), one.results)
        expected = "trap" if "trap" in one.outcomes else one.results
        self.assertEqual(outcome(run_slots, blocks, plans, one.name, one.values), expected)
        for value, found in list(zip(one.values, one.outcomes))[:2]:
            self.assertEqual(outcome(run_slots, blocks, plans, one.name, [value]) == "trap", found == "trap")
        self.assertEqual((blocks, plans, one.values), before)

    def test_plans_of_the_program(self):
        for one in drawn():
            self.check_run(one, one.blocks, plans_of(one.blocks))

    def test_plans_behind_improve(self):
        for one in drawn():
            blocks = rewrite(one.blocks, improve(one.blocks))
            self.check_run(one, blocks, plans_of(blocks))

    def test_other_right_plans(self):
        chooser = random.Random(3)
        for one in small(60)[::2]:
            for blocks in (one.blocks, rewrite(one.blocks, improve(one.blocks))):
                self.check_run(one, blocks, {block_one[1]: drawn_plan(block_one, chooser) for block_one in blocks})

    def test_each_register_in_a_slot_of_its_own(self):
        for one in drawn()[::6]:
            plans = {block_one[1]: {number: 3 * number for number in all_registers(block_one)}
                     for block_one in one.blocks}
            self.check_run(one, one.blocks, plans)


if __name__ == "__main__":
    unittest.main()
