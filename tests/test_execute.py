import copy
import unittest

from building import HIGH, LOW
from flatsheaves.errors import FlatError, TrapError
from flatsheaves.vectors import execute

# An instruction, its extra, its inputs, and its output.
CASES = [
    ("fill", 5, [[1, 2, 3]], [5, 5, 5]),
    ("fill", 0, [[7]], [0]),
    ("fill", LOW, [[0, 0]], [LOW, LOW]),
    ("fill", HIGH, [[0, 0]], [HIGH, HIGH]),
    ("fill", 5, [[]], []),

    ("calc", "+", [[1, HIGH, LOW], [2, 1, -1]], [3, LOW, HIGH]),
    ("calc", "-", [[1, LOW, 0], [2, 1, LOW]], [-1, HIGH, LOW]),
    ("calc", "*", [[3, HIGH, LOW, 65536], [4, HIGH, -1, 65536]], [12, 1, LOW, 0]),
    ("calc", "/", [[7, -7, 7, -7, LOW], [2, 2, -2, -2, -1]], [3, -4, -4, 3, LOW]),
    ("calc", "mod", [[7, -7, 7, -7, LOW], [2, 2, -2, -2, -1]], [1, 1, -1, -1, 0]),
    ("calc", "min", [[3, LOW, HIGH], [4, HIGH, LOW]], [3, LOW, LOW]),
    ("calc", "max", [[3, LOW, HIGH], [4, HIGH, LOW]], [4, HIGH, HIGH]),
    ("calc", "<", [[3, 4, 4, LOW], [4, 3, 4, HIGH]], [1, 0, 0, 1]),
    ("calc", "=", [[3, 4, 4, LOW], [4, 3, 4, HIGH]], [0, 0, 1, 0]),
    ("calc", "+", [[], []], []),
    ("calc", "/", [[], []], []),
    ("calc", "mod", [[0], [5]], [0]),

    ("take", None, [[5, 6, 7], [2, 0, 0, 1]], [7, 5, 5, 6]),
    ("take", None, [[LOW, HIGH], [1, 0]], [HIGH, LOW]),
    ("take", None, [[5, 6, 7], []], []),
    ("take", None, [[], []], []),

    ("pick", None, [[2, 0, 3], [2, 0]], [2, 3, 4, 0, 1]),
    ("pick", None, [[2, 0, 3], [0, 1, 2]], [0, 1, 2, 3, 4]),
    ("pick", None, [[2, 1], [1, 1, 0, 1]], [2, 2, 0, 1, 2]),
    ("pick", None, [[0, 2, 0, 1, 0], [0, 3, 2, 1, 4]], [2, 0, 1]),
    ("pick", None, [[0, 0], [1, 0, 1]], []),
    ("pick", None, [[2, 0, 3], []], []),
    ("pick", None, [[], []], []),

    ("repeat", None, [[2, 1, 3]], [0, 0, 1, 2, 2, 2]),
    ("repeat", None, [[0, 2, 0, 0, 1, 0]], [1, 1, 4]),
    ("repeat", None, [[0, 0]], []),
    ("repeat", None, [[]], []),

    ("count", None, [[2, 1, 3]], [0, 1, 0, 0, 1, 2]),
    ("count", None, [[0, 2, 0, 0, 1, 0]], [0, 1, 0]),
    ("count", None, [[0, 0]], []),
    ("count", None, [[]], []),

    ("where", True, [[1, 0, -1, 0, HIGH, LOW]], [0, 2, 4, 5]),
    ("where", False, [[1, 0, -1, 0, HIGH, LOW]], [1, 3]),
    ("where", True, [[0, 0]], []),
    ("where", False, [[0, 0]], [0, 1]),
    ("where", True, [[2, 3]], [0, 1]),
    ("where", False, [[2, 3]], []),
    ("where", True, [[]], []),
    ("where", False, [[]], []),

    ("weave", None, [[1, 0, 5, 0]], [0, 2, 1, 3]),
    ("weave", None, [[0, 0, LOW, 0, HIGH, -1]], [3, 4, 0, 5, 1, 2]),
    ("weave", None, [[0, 0, 0]], [0, 1, 2]),
    ("weave", None, [[7, 1, 7]], [0, 1, 2]),
    ("weave", None, [[0, 1]], [1, 0]),
    ("weave", None, [[]], []),

    ("join", None, [[1, 2], [3]], [1, 2, 3]),
    ("join", None, [[3], [1, LOW]], [3, 1, LOW]),
    ("join", None, [[], [3]], [3]),
    ("join", None, [[3], []], [3]),
    ("join", None, [[], []], []),

    ("sums", None, [[2, 1, 3], [1, 2, 3, 4, 5, -6]], [3, 3, 3]),
    ("sums", None, [[0, 2, 0, 0, 1, 0], [1, 2, 3]], [0, 3, 0, 0, 3, 0]),
    ("sums", None, [[2, 2, 3], [HIGH, 1, LOW, -1, HIGH, HIGH, 2]], [LOW, HIGH, 0]),
    ("sums", None, [[1, 1], [LOW, HIGH]], [LOW, HIGH]),
    ("sums", None, [[0, 0], []], [0, 0]),
    ("sums", None, [[], []], []),

    ("zip", None, [[2, 1], [1, 2]], [0, 1, 3, 2, 4, 5]),
    ("zip", None, [[0, 2, 0], [1, 0, 2]], [2, 0, 1, 3, 4]),
    ("zip", None, [[1, 0, 2, 0], [0, 0, 1, 0]], [0, 1, 2, 3]),
    ("zip", None, [[3, 0, 1], [0, 2, 0]], [0, 1, 2, 4, 5, 3]),
    ("zip", None, [[0, 0], [2, 1]], [0, 1, 2]),
    ("zip", None, [[2, 1], [0, 0]], [0, 1, 2]),
    ("zip", None, [[0], [0]], []),
    ("zip", None, [[], []], []),

    ("place", None, [[2, 1, 3], [1, 0, 2]], [1, 2, 5]),
    ("place", None, [[2, 1, 3], [0, 0, 0]], [0, 2, 3]),
    ("place", None, [[], []], []),

    ("range", None, [[0, 1000, 5]], [0, 1000, 5]),
    ("range", None, [[]], []),

    ("same", None, [[1, LOW, HIGH], [1, LOW, HIGH]], [1, LOW, HIGH]),
    ("same", None, [[], []], []),

    ("flags", None, [[1, 0, 7, -1, LOW, HIGH, 0]], [1, 0, 1, 1, 1, 1, 0]),
    ("flags", None, [[]], []),
]

# An instruction, its extra, and inputs for which it traps.
TRAPS = [
    ("calc", "/", [[1], [0]]),
    ("calc", "/", [[0, 1], [0, 1]]),
    ("calc", "/", [[LOW, 5, HIGH], [1, 2, 0]]),
    ("calc", "mod", [[1], [0]]),
    ("calc", "mod", [[0, 1], [0, 1]]),
    ("calc", "mod", [[LOW, 5, HIGH], [1, 2, 0]]),

    ("place", None, [[2, 1], [-1, 0]]),
    ("place", None, [[2, 1], [2, 0]]),
    ("place", None, [[2, 1], [0, 1]]),
    ("place", None, [[2, 1], [0, -1]]),
    ("place", None, [[2, 1], [HIGH, 0]]),
    ("place", None, [[2, 1], [1, LOW]]),
    ("place", None, [[0], [0]]),
    ("place", None, [[0, 2], [0, 1]]),
    ("place", None, [[2, 0, 2], [1, 0, 1]]),
    ("place", None, [[2, 0], [1, 0]]),

    ("range", None, [[-1]]),
    ("range", None, [[1001]]),
    ("range", None, [[-1, 5]]),
    ("range", None, [[1001, 5]]),
    ("range", None, [[0, 1000, 1001]]),
    ("range", None, [[0, 1000, -1]]),
    ("range", None, [[LOW]]),
    ("range", None, [[HIGH]]),

    ("same", None, [[1], [2]]),
    ("same", None, [[1, 2, 3], [0, 2, 3]]),
    ("same", None, [[1, 2, 3], [1, 2, 4]]),
    ("same", None, [[1, 2], [1]]),
    ("same", None, [[1], [1, 2]]),
    ("same", None, [[], [0]]),
    ("same", None, [[0], []]),
    ("same", None, [[1, 2], [2, 1]]),
]

NAMES = ("fill", "calc", "take", "pick", "repeat", "count", "where", "weave", "join", "sums", "zip", "place", "range",
         "same", "flags")


class Execute(unittest.TestCase):
    def test_all_are_here(self):
        self.assertEqual({name for name, _, _, _ in CASES}, set(NAMES))

    def test_the_example(self):
        self.assertEqual(execute("pick", None, [[2, 0, 3], [2, 0]]), [2, 3, 4, 0, 1])

    def test_outputs(self):
        for name, extra, inputs, output in CASES:
            found = execute(name, extra, inputs)
            self.assertEqual(found, output, (name, extra, inputs))
            self.assertIs(type(found), list)
            for item in found:
                self.assertIs(type(item), int, (name, extra, inputs))

    def test_traps(self):
        for name, extra, inputs in TRAPS:
            with self.assertRaises(TrapError, msg=(name, extra, inputs)) as caught:
                execute(name, extra, inputs)
            self.assertIsInstance(caught.exception, FlatError)

    def test_what_does_not_trap(self):
        for sign in ("+", "-", "*", "min", "max", "<", "="):
            self.assertEqual(len(execute("calc", sign, [[1, 2], [0, 0]])), 2)

    def test_large_vectors(self):
        lengths = [k % 4 for k in range(20000)]
        total = sum(lengths)
        self.assertEqual(execute("pick", None, [lengths, list(range(20000))]), list(range(total)))
        self.assertEqual(execute("sums", None, [lengths, [1] * total]), lengths)
        self.assertEqual(len(execute("zip", None, [lengths, lengths])), 2 * total)
        filled = [length for length in lengths if length > 0]
        last = execute("place", None, [filled, [length - 1 for length in filled]])
        self.assertEqual(last, [sum(filled[:k + 1]) - 1 for k in range(100)] + last[100:])
        self.assertEqual(last[-1], total - 1)

    def test_arguments_stay(self):
        for name, extra, inputs in [case[:3] for case in CASES + TRAPS]:
            before = copy.deepcopy(inputs)
            try:
                execute(name, extra, inputs)
            except TrapError:
                pass
            self.assertEqual(inputs, before, name)

    def test_no_list_is_shared(self):
        for name, extra, inputs, output in CASES:
            before = copy.deepcopy(inputs)
            found = execute(name, extra, inputs)
            found.append("spoiled")
            self.assertEqual(inputs, before, name)
            self.assertEqual(execute(name, extra, inputs), output)

    def test_one_vector_twice(self):
        v = [2, 0, 1]
        self.assertEqual(execute("join", None, [v, v]), [2, 0, 1, 2, 0, 1])
        self.assertEqual(execute("calc", "*", [v, v]), [4, 0, 1])
        self.assertEqual(execute("zip", None, [v, v]), [0, 1, 3, 4, 2, 5])
        found = execute("same", None, [v, v])
        found[0] = 9
        self.assertEqual(v, [2, 0, 1])


if __name__ == "__main__":
    unittest.main()
