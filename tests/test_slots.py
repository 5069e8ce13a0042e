"""Which registers are live, the least number of slots, and which plans are right."""

import copy
import random
import unittest

from building import NUM, NUMS, POINT, block, both, seq, spoil
from drawn import drawn, small
from flatsheaves.passes import improve, rewrite
from flatsheaves.slots import fewest, live, plan, plan_right
from steps import all_live, all_registers, is_right

EXAMPLE = block([("fill", 2, [0], [2]), ("calc", "+", [1, 2], [3])], [3])

# A block, the registers that are live behind each index, and the least number of slots with the index.
CASES = [
    (EXAMPLE, [[0, 1], [1, 2], [3]], (2, -1)),
    # No instructions.
    (block([], [1]), [[0, 1]], (2, -1)),
    (block([], [0], seq(both(POINT, NUMS))), [[0, 1, 2, 3, 4, 5]], (6, -1)),
    # The registers of the argument that nobody uses are live behind the start only.
    (block([("fill", 1, [0], [4])], [4], both(NUMS, NUM)), [[0, 1, 2, 3], [4]], (4, -1)),
    # A register that nobody uses is live behind the instruction that sets it only.
    (block([("fill", 1, [0], [2]), ("fill", 2, [0], [3]), ("fill", 3, [0], [4])], [1]),
     [[0, 1], [0, 1, 2], [0, 1, 3], [1, 4]], (3, 0)),
    # Several times among the inputs and the results.
    (block([("calc", "+", [1, 1], [2]), ("join", None, [2, 2], [3]), ("fill", 1, [0], [4])], [2, 2, 3]),
     [[0, 1], [0, 2], [0, 2, 3], [2, 3, 4]], (3, 1)),
    # Results that are registers of the argument, and register 0.
    (block([("fill", 1, [0], [3])], [2, 1], POINT), [[0, 1, 2], [1, 2, 3]], (3, -1)),
    (block([("fill", 1, [1], [2]), ("fill", 1, [2], [3])], [0, 3], NUM, POINT), [[0, 1], [0, 2], [0, 3]], (2, -1)),
    # Calls with several outputs, with some that nobody uses, and with none.
    (block([("call", "g", [0, 1], [2, 3, 4]), ("call", "g", [0, 3], [5, 6, 7])], [6, 3]),
     [[0, 1], [0, 2, 3, 4], [3, 5, 6, 7]], (4, 0)),
    (block([("call", "g", [0, 1], [4, 3, 2])], [1]), [[0, 1], [1, 2, 3, 4]], (4, 0)),
    (block([("call", "g", [1, 1], [])], [0]), [[0, 1], [0]], (2, -1)),
    # The numbers of the registers say nothing.
    (block([("fill", 1, [0], [90]), ("fill", 1, [0], [5]), ("join", None, [90, 5], [40])], [40, 1]),
     [[0, 1], [0, 1, 90], [1, 5, 90], [1, 40]], (3, 0)),
    # The least index, where the largest number comes several times.
    (block([("fill", 1, [0], [2]), ("fill", 2, [1], [3]), ("join", None, [2, 3], [4]), ("fill", 3, [4], [5])], [4, 5]),
     [[0, 1], [1, 2], [2, 3], [4], [4, 5]], (2, -1)),
    (block([("fill", 1, [1], [2]), ("fill", 2, [2], [3]), ("fill", 3, [2], [4]), ("join", None, [2, 3], [5]),
            ("join", None, [5, 4], [6])], [6]),
     [[0, 1], [2], [2, 3], [2, 3, 4], [4, 5], [6]], (3, 2)),
]


class SlotCase(unittest.TestCase):
    def check_plan(self, one):
        slots = plan(one)
        self.assertIs(type(slots), dict)
        self.assertTrue(is_right(one, slots), (one, slots))
        self.assertTrue(plan_right(one, slots))
        self.assertEqual(sorted(slots), sorted(all_registers(one)))
        self.assertEqual(sorted(set(slots.values())), list(range(fewest(one)[0])))


class Live(SlotCase):
    def test_the_example(self):
        self.assertEqual(live(EXAMPLE), [[0, 1], [1, 2], [3]])
        self.assertEqual(fewest(EXAMPLE), (2, -1))

    def test_cases(self):
        for one, rows, least in CASES:
            before = copy.deepcopy(one)
            self.assertEqual(live(one), rows, one)
            self.assertEqual(all_live(one), rows, one)
            self.assertEqual(fewest(one), least, one)
            self.assertIs(type(fewest(one)), tuple)
            self.check_plan(one)
            self.assertEqual(one, before)

    def test_drawn_programs(self):
        for drawn_one in small(60):
            for blocks in (drawn_one.blocks, rewrite(drawn_one.blocks, improve(drawn_one.blocks))):
                for one in blocks:
                    rows = all_live(one)
                    self.assertEqual(live(one), rows)
                    largest = max(len(row) for row in rows)
                    self.assertEqual(fewest(one), (largest, [len(row) for row in rows].index(largest) - 1))

    def test_no_list_is_shared(self):
        """Neither with the block nor between the rows."""
        for one, rows, _ in CASES:
            before = copy.deepcopy(one)
            found = live(one)
            spoil(found[0])
            self.assertEqual(found[1:], rows[1:])
            spoil(found)
            spoil(plan(one))
            self.assertEqual(one, before)
            self.assertEqual(live(one), rows)


class Plans(SlotCase):
    def test_drawn_programs(self):
        for one in drawn():
            for blocks in (one.blocks, rewrite(one.blocks, improve(one.blocks))):
                for block_one in blocks:
                    slots = plan(block_one)
                    self.assertTrue(plan_right(block_one, slots))
                    self.assertEqual(len(set(slots.values())), max(len(row) for row in live(block_one)))
        for one in small(60):
            for block_one in one.blocks:
                self.check_plan(block_one)

    def test_each_register_alone(self):
        for one, _, _ in CASES:
            slots = {number: k for k, number in enumerate(all_registers(one))}
            self.assertIs(plan_right(one, slots), True)
            self.assertIs(plan_right(one, {number: 7 * slot for number, slot in slots.items()}), True)

    def test_a_plan_that_lacks_a_register(self):
        """Also one that nobody uses, and in every place."""
        for one, _, _ in CASES:
            for number in all_registers(one):
                slots = {other: k for k, other in enumerate(all_registers(one)) if other != number}
                self.assertIs(plan_right(one, slots), False)
            self.assertIs(plan_right(one, {}), False)

    def test_two_registers_in_one_slot(self):
        """Right exactly if they are never live behind the same index."""
        for one, rows, _ in CASES:
            registers = all_registers(one)
            for first in registers:
                for second in registers:
                    slots = {number: number for number in registers}
                    slots[second] = first
                    together = first != second and any(first in row and second in row for row in rows)
                    self.assertIs(plan_right(one, slots), not together, (one, first, second))

    def test_a_slot_for_all(self):
        for one, _, _ in CASES:
            self.assertIs(plan_right(one, {number: 0 for number in all_registers(one)}), False)

    def test_three_in_one_slot(self):
        """The one that is live longest is not the one that was set last."""
        code = [("fill", 1, [0], [2]), ("fill", 1, [0], [3]), ("join", None, [2, 3], [4]), ("fill", 1, [2], [5])]
        one = block(code, [5])
        slots = {0: 0, 1: 1, 2: 1, 3: 2, 4: 1, 5: 3}
        self.assertFalse(plan_right(one, slots))
        slots[4] = 2
        self.assertTrue(plan_right(one, slots))
        slots[5] = 1
        self.assertTrue(plan_right(one, slots))

    def test_an_output_in_the_slot_of_an_input(self):
        self.assertTrue(plan_right(EXAMPLE, {0: 0, 1: 1, 2: 0, 3: 0}))
        self.assertTrue(plan_right(EXAMPLE, {0: 0, 1: 1, 2: 0, 3: 1}))
        self.assertFalse(plan_right(EXAMPLE, {0: 0, 1: 1, 2: 1, 3: 0}))
        self.assertFalse(plan_right(EXAMPLE, {0: 1, 1: 1, 2: 0, 3: 2}))

    def test_outputs_of_one_call(self):
        one = block([("call", "g", [0, 1], [2, 3])], [2])
        self.assertTrue(plan_right(one, {0: 0, 1: 1, 2: 0, 3: 1}))
        self.assertFalse(plan_right(one, {0: 0, 1: 1, 2: 0, 3: 0}))

    def test_drawn_plans(self):
        """Plans that have been changed in one place, against the words of point 21."""
        chooser = random.Random(7)
        seen = []
        for one in small(45)[::2]:
            for block_one in one.blocks:
                slots = plan(block_one)
                registers = all_registers(block_one)
                for _ in range(10):
                    changed = {**slots, chooser.choice(registers): chooser.choice(list(slots.values()))}
                    expected = is_right(block_one, changed)
                    self.assertIs(plan_right(block_one, changed), expected)
                    seen.append(expected)
        self.assertGreater(seen.count(True), 300)
        self.assertGreater(seen.count(False), 300)

    def test_arguments_stay(self):
        for one in drawn()[::10]:
            for block_one in one.blocks:
                slots = plan(block_one)
                before = copy.deepcopy((block_one, slots))
                plan_right(block_one, slots)
                live(block_one)
                fewest(block_one)
                self.assertEqual((block_one, slots), before)


if __name__ == "__main__":
    unittest.main()
