import copy
import unittest

from building import HIGH, LOW
from flatsheaves.plain import size


class Size(unittest.TestCase):
    def test_numbers(self):
        for n in (0, 1, -1, 7, LOW, HIGH):
            self.assertEqual(size(n), 1)

    def test_pairs(self):
        self.assertEqual(size((1, 2)), 2)
        self.assertEqual(size(((1, 2), 3)), 3)
        self.assertEqual(size(((1, 2), (3, (4, 5)))), 5)

    def test_sequences(self):
        self.assertEqual(size([]), 1)
        self.assertEqual(size([5]), 2)
        self.assertEqual(size([5, 6, 7]), 4)

    def test_nested(self):
        self.assertEqual(size([[]]), 2)
        self.assertEqual(size([[], [], []]), 4)
        self.assertEqual(size([[1, 2], [], [3]]), 7)
        self.assertEqual(size([[[1]], [[], [2, 3]]]), 9)

    def test_pairs_and_sequences(self):
        self.assertEqual(size(([], [])), 2)
        self.assertEqual(size((4, [])), 2)
        self.assertEqual(size(([1, 2], 3)), 4)
        self.assertEqual(size([(1, 2), (3, 4)]), 5)
        self.assertEqual(size([([], 1), ([2, 3], 4)]), 7)

    def test_large_and_deep(self):
        self.assertEqual(size([[k] * 1000 for k in range(100)]), 100101)
        row, tower = [], 1
        for _ in range(20000):
            row = [row]
            tower = (tower, 2)
        self.assertEqual(size(row), 20001)
        self.assertEqual(size(tower), 20001)

    def test_the_argument_stays(self):
        value = [([1, 2], (3, [[4], []])), ([], (5, []))]
        before = copy.deepcopy(value)
        size(value)
        self.assertEqual(value, before)


if __name__ == "__main__":
    unittest.main()
