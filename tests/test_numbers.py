import unittest
from fractions import Fraction
from math import floor

from flatsheaves.errors import FlatError, TrapError
from flatsheaves.numbers import calculate, wrapped

LOW = -2147483648
HIGH = 2147483647
EDGES = [LOW, LOW + 1, LOW + 2, -1073741824, -65537, -65536, -46341, -7, -3, -2, -1,
         0, 1, 2, 3, 7, 46340, 46341, 65536, 65537, 1073741824, HIGH - 1, HIGH]


def reduced(n):
    """The only number in the range that differs from n by a multiple of 2**32."""
    low = n & 0xFFFFFFFF
    return low if low <= HIGH else low - 0x100000000


def expected(sign, a, b):
    if sign == "/":
        return reduced(floor(Fraction(a, b)))
    if sign == "mod":
        return reduced(a - b * floor(Fraction(a, b)))
    if sign == "min":
        return sorted([a, b])[0]
    if sign == "max":
        return sorted([a, b])[1]
    if sign == "<":
        return int(b - a > 0)
    if sign == "=":
        return int(a - b == 0)
    return reduced({"+": a + b, "-": a - b, "*": a * b}[sign])


class Wrapped(unittest.TestCase):
    def test_numbers_stay(self):
        for n in EDGES:
            self.assertEqual(wrapped(n), n)

    def test_just_beyond_the_range(self):
        self.assertEqual(wrapped(HIGH + 1), LOW)
        self.assertEqual(wrapped(HIGH + 2), LOW + 1)
        self.assertEqual(wrapped(LOW - 1), HIGH)
        self.assertEqual(wrapped(LOW - 2), HIGH - 1)

    def test_one_and_more_spans_away(self):
        for n in EDGES:
            for turns in (-1000000, -2, -1, 1, 2, 3, 2**40):
                self.assertEqual(wrapped(n + turns * 2**32), n)

    def test_far_outside(self):
        self.assertEqual(wrapped(2**32), 0)
        self.assertEqual(wrapped(-(2**32)), 0)
        self.assertEqual(wrapped(2**63), 0)
        self.assertEqual(wrapped(10**30 + 5), reduced(10**30 + 5))
        self.assertEqual(wrapped(-(10**30) - 5), reduced(-(10**30) - 5))
        self.assertEqual(wrapped(2**2000 + 31), 31)
        self.assertEqual(wrapped(-(2**2000) - 31), -31)


class Calculate(unittest.TestCase):
    def test_ordinary_numbers(self):
        cases = [("+", 3, 4, 7), ("-", 3, 4, -1), ("*", -3, 4, -12), ("/", 17, 5, 3), ("mod", 17, 5, 2),
                 ("min", 3, -4, -4), ("min", -4, 3, -4), ("max", 3, -4, 3), ("max", -4, 3, 3),
                 ("<", 3, 4, 1), ("<", 4, 3, 0), ("<", 3, 3, 0), ("=", 3, 3, 1), ("=", 3, 4, 0), ("=", 4, 3, 0)]
        for sign, a, b, result in cases:
            self.assertEqual(calculate(sign, a, b), result, (sign, a, b))

    def test_results_beyond_the_range_are_wrapped(self):
        cases = [("+", HIGH, 1, LOW), ("+", LOW, -1, HIGH), ("+", HIGH, HIGH, -2), ("+", LOW, LOW, 0),
                 ("-", LOW, 1, HIGH), ("-", HIGH, -1, LOW), ("-", 0, LOW, LOW), ("-", LOW, HIGH, 1),
                 ("*", HIGH, 2, -2), ("*", HIGH, HIGH, 1), ("*", LOW, LOW, 0), ("*", LOW, -1, LOW),
                 ("*", 65536, 65536, 0), ("*", 65536, 32768, LOW), ("*", 46341, 46341, -2147479015)]
        for sign, a, b, result in cases:
            self.assertEqual(calculate(sign, a, b), result, (sign, a, b))

    def test_results_at_the_edge_stay(self):
        self.assertEqual(calculate("+", HIGH - 1, 1), HIGH)
        self.assertEqual(calculate("-", LOW + 1, 1), LOW)
        self.assertEqual(calculate("*", 1073741824, -2), LOW)

    def test_quotients_are_rounded_down(self):
        for a, b, result in [(7, 2, 3), (-7, 2, -4), (7, -2, -4), (-7, -2, 3), (6, -2, -3), (-6, 2, -3),
                             (1, HIGH, 0), (-1, HIGH, -1), (0, -5, 0)]:
            self.assertEqual(calculate("/", a, b), result, (a, b))

    def test_remainders_have_the_sign_of_the_divisor(self):
        for a, b, result in [(7, 3, 1), (-7, 3, 2), (7, -3, -2), (-7, -3, -1), (6, -3, 0), (-6, 3, 0),
                             (-1, HIGH, HIGH - 1), (1, LOW, LOW + 1), (0, -5, 0)]:
            self.assertEqual(calculate("mod", a, b), result, (a, b))

    def test_the_lowest_number_by_minus_one(self):
        self.assertEqual(calculate("/", LOW, -1), LOW)
        self.assertEqual(calculate("mod", LOW, -1), 0)

    def test_every_sign_on_every_pair_of_edges(self):
        for sign in ("+", "-", "*", "/", "mod", "min", "max", "<", "="):
            for a in EDGES:
                for b in EDGES:
                    if b == 0 and sign in ("/", "mod"):
                        continue
                    result = calculate(sign, a, b)
                    self.assertEqual(result, expected(sign, a, b), (sign, a, b))
                    self.assertIs(type(result), int, (sign, a, b))

    def test_comparisons_give_integers(self):
        for sign in ("<", "="):
            for a, b in [(1, 2), (2, 1), (2, 2)]:
                self.assertIs(type(calculate(sign, a, b)), int)

    def test_dividing_by_zero_traps(self):
        for sign in ("/", "mod"):
            for a in EDGES:
                with self.assertRaises(TrapError):
                    calculate(sign, a, 0)

    def test_a_trap_is_a_flat_error(self):
        with self.assertRaises(FlatError):
            calculate("mod", 1, 0)

    def test_other_signs_do_not_trap_at_zero(self):
        for sign, result in [("+", 5), ("-", 5), ("*", 0), ("min", 0), ("max", 5), ("<", 0), ("=", 0)]:
            self.assertEqual(calculate(sign, 5, 0), result)
        for sign in ("/", "mod"):
            self.assertEqual(calculate(sign, 0, 5), 0)


if __name__ == "__main__":
    unittest.main()
