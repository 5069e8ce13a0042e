import copy
import unittest

from flatsheaves.kinds import free_names

A, B, C, X, Y = [("var", name) for name in ("a", "b", "c", "x", "y")]


class FreeNames(unittest.TestCase):
    def test_every_form(self):
        cases = [
            (("num", 7), []),
            (A, ["a"]),
            (("let", "x", A, B), ["a", "b"]),
            (("if", A, B, C), ["a", "b", "c"]),
            (("op", "+", A, B), ["a", "b"]),
            (("pair", A, B), ["a", "b"]),
            (("first", A), ["a"]),
            (("second", A), ["a"]),
            (("each", "x", A, B), ["a", "b"]),
            (("iota", A), ["a"]),
            (("len", A), ["a"]),
            (("at", A, B), ["a", "b"]),
            (("sum", A), ["a"]),
            (("flat", A), ["a"]),
            (("keep", A, B), ["a", "b"]),
            (("append", A, B), ["a", "b"]),
            (("call", "f", A), ["a"]),
        ]
        for e, names in cases:
            self.assertEqual(free_names(e), names, e)

    def test_names_are_ascending(self):
        self.assertEqual(free_names(("if", C, A, B)), ["a", "b", "c"])
        self.assertEqual(free_names(("pair", ("var", "b10"), ("pair", ("var", "b9"), ("var", "B")))),
                         ["B", "b10", "b9"])

    def test_each_name_once(self):
        self.assertEqual(free_names(("op", "*", A, A)), ["a"])
        self.assertEqual(free_names(("if", A, ("op", "+", A, B), ("pair", B, A))), ["a", "b"])

    def test_only_variables_count(self):
        self.assertEqual(free_names(("call", "f", ("num", 1))), [])
        self.assertEqual(free_names(("op", "min", ("num", 1), ("num", 2))), [])
        self.assertEqual(free_names(("let", "x", ("num", 1), ("num", 2))), [])

    def test_bound_in_b(self):
        for form in ("let", "each"):
            self.assertEqual(free_names((form, "x", A, X)), ["a"])
            self.assertEqual(free_names((form, "x", A, ("pair", X, ("iota", B)))), ["a", "b"])

    def test_not_bound_in_the_first_part(self):
        for form in ("let", "each"):
            self.assertEqual(free_names((form, "x", X, ("num", 1))), ["x"])
            self.assertEqual(free_names((form, "x", X, X)), ["x"])
            self.assertEqual(free_names((form, "x", ("append", X, A), X)), ["a", "x"])

    def test_free_before_and_behind(self):
        for form in ("let", "each"):
            inner = (form, "x", A, X)
            self.assertEqual(free_names(("pair", inner, X)), ["a", "x"])
            self.assertEqual(free_names(("pair", X, inner)), ["a", "x"])
            self.assertEqual(free_names(("pair", inner, inner)), ["a"])

    def test_bound_twice(self):
        for outer in ("let", "each"):
            for inner in ("let", "each"):
                self.assertEqual(free_names((outer, "x", A, (inner, "x", X, X))), ["a"])
                hiding = (outer, "x", A, ("pair", (inner, "x", B, X), X))
                self.assertEqual(free_names(hiding), ["a", "b"])
                self.assertEqual(free_names(("pair", hiding, X)), ["a", "b", "x"])
                self.assertEqual(free_names((outer, "x", (inner, "x", A, X), X)), ["a"])
                self.assertEqual(free_names((outer, "x", (inner, "y", A, Y), Y)), ["a", "y"])

    def test_deeply_nested(self):
        e = X
        for _ in range(20000):
            e = ("op", "+", e, Y)
        self.assertEqual(free_names(e), ["x", "y"])
        self.assertEqual(free_names(("let", "y", A, e)), ["a", "x"])

    def test_many_lets(self):
        e = ("pair", ("var", "x0"), ("var", "z"))
        for k in range(5000):
            e = ("let", f"x{k % 100}", ("var", f"x{(k + 1) % 100}"), e)
        self.assertEqual(free_names(e), ["x0", "z"])

    def test_the_result_is_a_list_of_its_own(self):
        e = ("pair", A, B)
        first = free_names(e)
        self.assertIs(type(first), list)
        first.append("z")
        self.assertEqual(free_names(e), ["a", "b"])

    def test_the_argument_stays(self):
        e = ("let", "x", ("pair", A, X), ("each", "y", ("iota", X), ("op", "+", Y, B)))
        before = copy.deepcopy(e)
        free_names(e)
        self.assertEqual(e, before)


if __name__ == "__main__":
    unittest.main()
