import copy
import unittest

from building import HIGH, LOW, NUM, NUMS, POINT, ROWS, both, seq, spoil
from flatsheaves.layouts import values_of, vectors_of

POINTS = seq(POINT)
DEEP = seq(both(NUMS, both(NUM, seq(POINTS))))

# A kind, values of it, and the vectors that hold them.
CASES = [
    (NUM, [7], [[7]]),
    (NUM, [LOW, 0, HIGH], [[LOW, 0, HIGH]]),
    (POINT, [(1, 2)], [[1], [2]]),
    (POINT, [(1, 2), (3, 4), (5, 6)], [[1, 3, 5], [2, 4, 6]]),
    (both(POINT, NUM), [((1, 2), 3), ((4, 5), 6)], [[1, 4], [2, 5], [3, 6]]),
    (both(NUM, POINT), [(1, (2, 3)), (4, (5, 6))], [[1, 4], [2, 5], [3, 6]]),
    (both(both(NUM, POINT), POINT), [((1, (2, 3)), (4, 5))], [[1], [2], [3], [4], [5]]),
    (NUMS, [[5, 6]], [[2], [5, 6]]),
    (NUMS, [[5, 6], [], [7]], [[2, 0, 1], [5, 6, 7]]),
    (NUMS, [[], [5], []], [[0, 1, 0], [5]]),
    (NUMS, [[]], [[0], []]),
    (NUMS, [[], [], []], [[0, 0, 0], []]),
    (ROWS, [[[1, 2], []], [[3]]], [[2, 1], [2, 0, 1], [1, 2, 3]]),
    (ROWS, [[], [[]], [[], [4]]], [[0, 1, 2], [0, 0, 1], [4]]),
    (ROWS, [[]], [[0], [], []]),
    (ROWS, [[[]]], [[1], [0], []]),
    (seq(ROWS), [[[[1], []], []], [], [[[2, 3]]]], [[2, 0, 1], [2, 0, 1], [1, 0, 2], [1, 2, 3]]),
    (seq(ROWS), [[], [[]], [[[]]]], [[0, 1, 1], [0, 1], [0], []]),
    (seq(seq(ROWS)), [[[[[9]]]]], [[1], [1], [1], [1], [9]]),
    (POINTS, [[(1, 2), (3, 4)], []], [[2, 0], [1, 3], [2, 4]]),
    (POINTS, [[]], [[0], [], []]),
    (both(NUMS, NUM), [([1, 2], 3), ([], 4)], [[2, 0], [1, 2], [3, 4]]),
    (both(NUM, NUMS), [(3, [1, 2]), (4, [])], [[3, 4], [2, 0], [1, 2]]),
    (both(NUMS, NUMS), [([1], [2, 3]), ([], [4])], [[1, 0], [1], [2, 1], [2, 3, 4]]),
    (both(ROWS, NUMS), [([[1], []], [2]), ([], [])], [[2, 0], [1, 0], [1], [1, 0], [2]]),
    (seq(both(NUMS, NUM)), [[([1, 2], 3)], [], [([], 4), ([5], 6)]], [[1, 0, 2], [2, 0, 1], [1, 2, 5], [3, 4, 6]]),
    (seq(both(NUM, ROWS)), [[(1, [[2], []])], [(3, [])]], [[1, 1], [1, 3], [2, 0], [1, 0], [2]]),
    (both(POINTS, both(NUM, POINTS)), [([(1, 2)], (3, [(4, 5), (6, 7)]))],
     [[1], [1], [2], [3], [2], [4, 6], [5, 7]]),
    (DEEP, [[([1], (2, [[(3, 4)], []]))], [], [([], (5, []))]],
     [[1, 0, 1], [1, 0], [1], [2, 5], [2, 0], [1, 0], [3], [4]]),
]

# The number of vectors of a kind without any values.
NOTHING = [(NUM, 1), (POINT, 2), (NUMS, 2), (ROWS, 3), (POINTS, 3), (both(ROWS, NUM), 4), (seq(seq(ROWS)), 5), (DEEP, 8)]


class Layouts(unittest.TestCase):
    def test_the_example(self):
        kind = ("seq", ("pair", ("num",), ("num",)))
        self.assertEqual(vectors_of(kind, [[(1, 2), (3, 4)], []]), [[2, 0], [1, 3], [2, 4]])

    def test_vectors(self):
        for kind, values, vectors in CASES:
            self.assertEqual(vectors_of(kind, values), vectors, (kind, values))

    def test_values(self):
        for kind, values, vectors in CASES:
            self.assertEqual(values_of(kind, vectors), values, (kind, vectors))

    def test_no_values(self):
        for kind, many in NOTHING:
            self.assertEqual(vectors_of(kind, []), [[] for _ in range(many)])
            self.assertEqual(values_of(kind, [[] for _ in range(many)]), [])

    def test_the_kinds_of_what_comes_back(self):
        for kind, values, _ in CASES:
            vectors = vectors_of(kind, values)
            self.assertIs(type(vectors), list)
            for vector in vectors:
                self.assertIs(type(vector), list)
                for item in vector:
                    self.assertIs(type(item), int)
        self.assertIs(type(values_of(POINT, [[1], [2]])[0]), tuple)
        self.assertIs(type(values_of(NUMS, [[1], [2]])[0]), list)

    def test_there_and_back(self):
        for kind, values, _ in CASES:
            self.assertEqual(values_of(kind, vectors_of(kind, values)), values)
            many = values * 3
            self.assertEqual(values_of(kind, vectors_of(kind, many)), many)

    def test_deep_and_large(self):
        kind, values = NUMS, [[1, 2]]
        for _ in range(5000):
            kind, values = seq(kind), [values]
        vectors = vectors_of(kind, values)
        self.assertEqual(vectors, [[1]] * 5000 + [[2], [1, 2]])
        back = values_of(kind, vectors)
        for _ in range(5000):
            self.assertEqual(len(back), 1)
            back = back[0]
        self.assertEqual(back, [[1, 2]])
        rows = [[[k, k + 1] for k in range(200)] for _ in range(200)]
        self.assertEqual(values_of(ROWS, vectors_of(ROWS, rows)), rows)

    def test_arguments_stay(self):
        for kind, values, vectors in CASES:
            before = copy.deepcopy((kind, values, vectors))
            vectors_of(kind, values)
            values_of(kind, vectors)
            self.assertEqual((kind, values, vectors), before)

    def test_no_list_is_shared(self):
        for kind, values, vectors in CASES:
            before = copy.deepcopy((values, vectors))
            spoil(vectors_of(kind, values))
            spoil(values_of(kind, vectors))
            self.assertEqual((values, vectors), before)
        values, vectors = [], [[]]
        spoil(vectors_of(NUM, values))
        spoil(values_of(NUM, vectors))
        self.assertEqual((values, vectors), ([], [[]]))


if __name__ == "__main__":
    unittest.main()
