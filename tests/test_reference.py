"""`evaluate` against the plain meaning written down once more, for many programs; and the layouts of what it gives."""

import copy
import unittest

from flatsheaves.errors import TrapError
from flatsheaves.kinds import check
from flatsheaves.layouts import values_of, vectors_of
from flatsheaves.plain import evaluate, size
from programs import made
from reference import plain_size, reference

MANY = 1500


def outcome(run, *arguments):
    try:
        return run(*arguments)
    except TrapError:
        return "trap"


class Programs(unittest.TestCase):
    def test_results_and_work(self):
        traps = 0
        for seed in range(MANY):
            program, name, values = made(seed)
            check(program)
            before = copy.deepcopy((program, values))
            for value in values:
                expected = outcome(reference, program, name, value)
                self.assertEqual(outcome(evaluate, program, name, value), expected, (seed, value))
                traps += expected == "trap"
            self.assertEqual((program, values), before)
        # Neither always a trap nor never.
        self.assertGreater(traps, MANY // 4)
        self.assertLess(traps, MANY * 3)

    def test_sizes(self):
        for seed in range(MANY):
            for value in made(seed)[2]:
                self.assertEqual(size(value), plain_size(value))

    def test_layouts_there_and_back(self):
        for seed in range(MANY):
            program, name, values = made(seed)
            kinds = {f[1]: f[3] for f in program}
            before = copy.deepcopy(values)
            vectors = vectors_of(kinds[name], values)
            self.assertEqual(values_of(kinds[name], vectors), before)
            self.assertEqual(values, before)


if __name__ == "__main__":
    unittest.main()
