"""Drawn programs: results and traps, touches and steps, and the shape of their blocks."""

import copy
import unittest

from drawn import drawn, outcome
from flatsheaves.flatten import flatten
from flatsheaves.kinds import check
from flatsheaves.layouts import vectors_of
from flatsheaves.machine import run


def largest(blocks):
    return max(len(block[4]) for block in blocks)


def results(blocks, name, values):
    return run(blocks, name, values)[0]


class Results(unittest.TestCase):
    def test_the_programs_are_well_typed(self):
        for one in drawn():
            check(one.program)

    def test_there_is_enough_of_everything(self):
        counts = [count for one in drawn() for count in one.counts]
        traps = sum(found == "trap" for one in drawn() for found in one.outcomes)
        self.assertGreater(len(counts), 1500)
        self.assertGreater(traps, 1000)
        self.assertGreater(len([calls for _, _, calls in counts if calls > 3]), 200)

    def test_all_values_that_do_not_trap(self):
        for seed, one in enumerate(drawn()):
            self.assertEqual(results(one.blocks, one.name, one.good), one.results, seed)
            self.assertEqual(results(one.blocks, one.name, one.good * 2), one.results * 2, seed)

    def test_each_value_alone(self):
        for seed, one in enumerate(drawn()):
            for value, found in zip(one.values, one.outcomes):
                expected = "trap" if found == "trap" else [found[0]]
                self.assertEqual(outcome(results, one.blocks, one.name, [value]), expected, seed)

    def test_all_values_together(self):
        for seed, one in enumerate(drawn()):
            expected = "trap" if "trap" in one.outcomes else one.results
            self.assertEqual(outcome(results, one.blocks, one.name, one.values), expected, seed)
            self.assertEqual(outcome(results, one.blocks, one.name, one.values[::-1]), expected[::-1]
                             if expected != "trap" else "trap", seed)

    def test_no_values(self):
        for one in drawn():
            self.assertEqual(run(one.blocks, one.name, []), ([], 0, 0))

    def test_arguments_stay(self):
        for one in drawn():
            before = copy.deepcopy((one.program, one.blocks, one.values))
            flatten(one.program)
            outcome(run, one.blocks, one.name, one.values)
            self.assertEqual((one.program, one.blocks, one.values), before)


class Costs(unittest.TestCase):
    def test_touches(self):
        for seed, one in enumerate(drawn()):
            work = sum(work for _, work, _ in one.counts)
            self.assertLessEqual(run(one.blocks, one.name, one.good)[2], 30 * work, seed)
            for value, (_, work, _) in zip(one.good, one.counts):
                self.assertLessEqual(run(one.blocks, one.name, [value])[2], 30 * work, seed)

    def test_steps(self):
        for seed, one in enumerate(drawn()):
            calls = sum(calls for _, _, calls in one.counts)
            self.assertLessEqual(run(one.blocks, one.name, one.good)[1], largest(one.blocks) * calls, seed)
            for value, (_, _, calls) in zip(one.good, one.counts):
                self.assertLessEqual(run(one.blocks, one.name, [value])[1], largest(one.blocks) * calls, seed)

    def test_steps_without_calls(self):
        seen = 0
        for seed, one in enumerate(drawn()):
            function = [f for f in one.program if f[1] == one.name][0]
            code = [block for block in one.blocks if block[1] == one.name][0][4]
            if "'call'" not in repr(function[5]) and one.good:
                seen += 1
                self.assertEqual(run(one.blocks, one.name, one.good)[1], len(code), seed)
                for value in one.good:
                    self.assertEqual(run(one.blocks, one.name, [value])[1], len(code), seed)
        self.assertGreater(seen, 100)


# How many inputs each instruction has.
INPUTS = {"fill": 1, "calc": 2, "take": 2, "pick": 2, "repeat": 1, "count": 1, "where": 1, "weave": 1, "join": 2,
          "sums": 2, "zip": 2, "place": 2, "range": 1, "same": 2, "flags": 1}


class Blocks(unittest.TestCase):
    def test_one_for_each_function_in_order(self):
        for one in drawn():
            self.assertIs(type(one.blocks), list)
            heads = [("block", name, given, result) for _, name, _, given, result, _ in one.program]
            self.assertEqual([block[:4] for block in one.blocks], heads)
            self.assertTrue(all(type(block) is tuple and len(block) == 6 for block in one.blocks))

    def test_registers(self):
        """Each is set once, and before it is used."""
        for one in drawn():
            for _, _, given, result, code, results in one.blocks:
                known = set(range(1 + len(vectors_of(given, []))))
                for _, _, inputs, outputs in code:
                    self.assertLessEqual(set(inputs), known)
                    for number in outputs:
                        self.assertIs(type(number), int)
                        self.assertNotIn(number, known)
                        known.add(number)
                self.assertIs(type(results), list)
                self.assertLessEqual(set(results), known)
                self.assertEqual(len(results), len(vectors_of(result, [])))

    def test_instructions(self):
        for one in drawn():
            functions = {f[1]: f for f in one.program}
            for block in one.blocks:
                for instruction in block[4]:
                    self.check_instruction(instruction, functions)

    def check_instruction(self, instruction, functions):
        self.assertIs(type(instruction), tuple)
        name, extra, inputs, outputs = instruction
        self.assertEqual((type(inputs), type(outputs)), (list, list))
        if name == "call":
            self.assertEqual(len(inputs), 1 + len(vectors_of(functions[extra][3], [])))
            self.assertEqual(len(outputs), len(vectors_of(functions[extra][4], [])))
            return
        self.assertEqual((len(inputs), len(outputs)), (INPUTS[name], 1))
        if name == "fill":
            self.assertIs(type(extra), int)
        elif name == "calc":
            self.assertIn(extra, ("+", "-", "*", "/", "mod", "min", "max", "<", "="))
        elif name == "where":
            self.assertIs(type(extra), bool)
        else:
            self.assertIsNone(extra)


if __name__ == "__main__":
    unittest.main()
