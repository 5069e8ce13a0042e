import copy
import unittest

from flatsheaves.errors import FlatError, KindError
from flatsheaves.kinds import check

NUM = ("num",)
SIGNS = ("+", "-", "*", "/", "mod", "min", "max", "<", "=")


def seq(kind):
    return ("seq", kind)


def pair(first, second):
    return ("pair", first, second)


NUMS = seq(NUM)
ROWS = seq(NUMS)
POINT = pair(NUM, NUM)

# The parameter of the tests, in which each kind of value is found.
GIVEN = pair(pair(NUM, NUMS), pair(ROWS, POINT))
V = ("var", "v")
N = ("first", ("first", V))
S = ("second", ("first", V))
R = ("first", ("second", V))
P = ("second", ("second", V))
POINTS = ("each", "z", S, P)
BAGS = ("each", "z", S, POINTS)
MIXED = ("pair", N, S)
ONE = ("num", 1)
UNKNOWN = ("var", "nowhere")

# A value of each of these kinds, and no other kinds are among them twice.
VALUES = [(NUM, N), (NUMS, S), (ROWS, R), (POINT, P), (seq(POINT), POINTS), (seq(seq(POINT)), BAGS),
          (pair(NUM, NUMS), MIXED), (pair(NUMS, NUM), ("pair", S, N)), (seq(ROWS), ("each", "z", S, R))]


def function(name, given, result, body, param="v"):
    return ("function", name, param, given, result, body)


def main(result, body):
    return function("main", GIVEN, result, body)


def is_seq(kind):
    return kind[0] == "seq"


class CheckCase(unittest.TestCase):
    def accepted(self, *program):
        self.assertIsNone(check(list(program)))

    def refused(self, *program):
        with self.assertRaises(KindError):
            check(list(program))

    def sorted_out(self, result, body):
        """The body has this kind, and none of the others."""
        self.accepted(main(result, body))
        for kind, _ in VALUES:
            if kind != result:
                self.refused(main(kind, body))

    def refused_body(self, body):
        for kind, _ in VALUES:
            self.refused(main(kind, body))


class Forms(CheckCase):
    """Every form: what its parts can be, and what it is then."""

    def test_no_functions(self):
        self.accepted()

    def test_values(self):
        for kind, e in VALUES:
            self.sorted_out(kind, e)

    def test_num(self):
        for n in (-2147483648, -1, 0, 7, 2147483647):
            self.sorted_out(NUM, ("num", n))

    def test_var(self):
        self.sorted_out(GIVEN, V)
        for kind, _ in VALUES:
            self.accepted(function("f", kind, kind, V))
        self.refused_body(UNKNOWN)

    def test_let(self):
        for kind, e in VALUES:
            self.sorted_out(kind, ("let", "x", e, ("var", "x")))
            self.sorted_out(kind, ("let", "x", ONE, e))

    def test_if(self):
        for kind, e in VALUES:
            self.sorted_out(kind, ("if", N, e, e))
            for other, d in VALUES:
                if other != kind:
                    self.refused_body(("if", N, e, d))
            if kind != NUM:
                self.refused_body(("if", e, N, N))
                self.refused_body(("if", e, e, e))

    def test_op(self):
        for sign in SIGNS:
            self.sorted_out(NUM, ("op", sign, N, ONE))
        for kind, e in VALUES:
            if kind != NUM:
                for sign in SIGNS:
                    self.refused_body(("op", sign, e, ONE))
                    self.refused_body(("op", sign, ONE, e))
                    self.refused_body(("op", sign, e, e))

    def test_unknown_signs(self):
        for sign in ("", "//", "%", ">", "<=", "==", "MOD", "Min", "+ ", "**", "and", "- ", "op"):
            self.refused_body(("op", sign, N, ONE))

    def test_pair(self):
        for kind, e in VALUES:
            for other, d in VALUES:
                self.accepted(main(pair(kind, other), ("pair", e, d)))
                if kind != other:
                    self.refused(main(pair(other, kind), ("pair", e, d)))
                    self.refused(main(pair(kind, kind), ("pair", e, d)))

    def test_first_and_second(self):
        for kind, e in VALUES:
            if kind[0] == "pair":
                self.sorted_out(kind[1], ("first", e))
                self.sorted_out(kind[2], ("second", e))
            else:
                self.refused_body(("first", e))
                self.refused_body(("second", e))

    def test_each(self):
        for kind, e in VALUES:
            self.accepted(main(seq(kind), ("each", "x", S, e)))
            self.refused(main(kind, ("each", "x", S, e)))
            if is_seq(kind):
                self.sorted_out(kind, ("each", "x", e, ("var", "x")))
                self.sorted_out(NUMS, ("each", "x", e, ONE))
            else:
                self.refused_body(("each", "x", e, ("var", "x")))
                self.refused_body(("each", "x", e, ONE))

    def test_iota(self):
        for kind, e in VALUES:
            if kind == NUM:
                self.sorted_out(NUMS, ("iota", e))
            else:
                self.refused_body(("iota", e))

    def test_len(self):
        for kind, e in VALUES:
            if is_seq(kind):
                self.sorted_out(NUM, ("len", e))
            else:
                self.refused_body(("len", e))

    def test_at(self):
        for kind, e in VALUES:
            if is_seq(kind):
                self.sorted_out(kind[1], ("at", e, N))
            else:
                self.refused_body(("at", e, N))
            if kind != NUM:
                self.refused_body(("at", S, e))
                self.refused_body(("at", R, e))

    def test_sum(self):
        for kind, e in VALUES:
            if kind == NUMS:
                self.sorted_out(NUM, ("sum", e))
            else:
                self.refused_body(("sum", e))

    def test_flat(self):
        for kind, e in VALUES:
            if is_seq(kind) and is_seq(kind[1]):
                self.sorted_out(kind[1], ("flat", e))
            else:
                self.refused_body(("flat", e))

    def test_keep(self):
        for kind, e in VALUES:
            if is_seq(kind):
                self.sorted_out(kind, ("keep", e, S))
            else:
                self.refused_body(("keep", e, S))
            if kind != NUMS:
                self.refused_body(("keep", S, e))
                self.refused_body(("keep", POINTS, e))

    def test_append(self):
        for kind, e in VALUES:
            for other, d in VALUES:
                if kind == other and is_seq(kind):
                    self.sorted_out(kind, ("append", e, d))
                else:
                    self.refused_body(("append", e, d))

    def test_call(self):
        for kind, e in VALUES:
            for result, d in VALUES:
                callee = function("f", kind, result, ("call", "f", V))
                self.accepted(callee, main(result, ("call", "f", e)))
                for other, d in VALUES:
                    if other != kind:
                        self.refused(callee, main(result, ("call", "f", d)))
                    if other != result:
                        self.refused(callee, main(other, ("call", "f", e)))

    def test_every_part_is_checked(self):
        bodies = [(NUM, ("let", "x", UNKNOWN, N)), (NUM, ("let", "x", N, UNKNOWN)),
                  (NUM, ("if", UNKNOWN, N, N)), (NUM, ("if", N, UNKNOWN, N)), (NUM, ("if", N, N, UNKNOWN)),
                  (NUM, ("op", "+", UNKNOWN, N)), (NUM, ("op", "+", N, UNKNOWN)),
                  (POINT, ("pair", UNKNOWN, N)), (POINT, ("pair", N, UNKNOWN)),
                  (NUM, ("first", UNKNOWN)), (NUM, ("second", UNKNOWN)),
                  (NUM, ("first", ("pair", N, UNKNOWN))), (NUM, ("second", ("pair", UNKNOWN, N))),
                  (NUMS, ("each", "x", UNKNOWN, N)), (NUMS, ("each", "x", S, UNKNOWN)),
                  (NUMS, ("iota", UNKNOWN)), (NUM, ("len", UNKNOWN)), (NUM, ("sum", UNKNOWN)),
                  (NUM, ("at", UNKNOWN, N)), (NUM, ("at", S, UNKNOWN)), (NUMS, ("flat", UNKNOWN)),
                  (NUMS, ("keep", UNKNOWN, S)), (NUMS, ("keep", S, UNKNOWN)),
                  (NUMS, ("append", UNKNOWN, S)), (NUMS, ("append", S, UNKNOWN)),
                  (GIVEN, ("call", "main", UNKNOWN)), (GIVEN, UNKNOWN)]
        for result, body in bodies:
            self.refused(main(result, body))
            with self.subTest(body):
                self.accepted(main(result, ("let", "nowhere", self.fitting(body), body)))

    def fitting(self, body):
        """A value with which the unknown variable of a body above is right."""
        if body == UNKNOWN or body[0] == "call":
            return V
        if body[0] in ("first", "second"):
            return N if body[1][0] == "pair" else P
        if body[0] == "flat":
            return R
        if body[0] in ("len", "sum", "keep", "append"):
            return S
        if body[0] in ("each", "at") and body[-2] == UNKNOWN:
            return S
        return N


class Scopes(CheckCase):
    def test_the_parameter_alone_is_visible(self):
        self.accepted(function("f", NUM, NUM, ("var", "k"), param="k"))
        self.refused(function("f", NUM, NUM, ("var", "v"), param="k"))
        self.refused(function("f", NUM, NUM, ("var", "f"), param="k"))
        self.refused(function("f", NUM, NUM, ("var", ""), param="k"))

    def test_the_parameter_of_another_function_is_not_visible(self):
        f = function("f", NUM, NUM, ("var", "k"), param="k")
        g = function("g", NUM, NUM, ("var", "k"), param="m")
        self.refused(f, g)
        self.refused(g, f)
        self.accepted(f, function("g", NUMS, NUMS, ("var", "k"), param="k"))

    def test_a_variable_of_the_caller_is_not_visible(self):
        f = function("f", NUM, NUM, ("var", "x"), param="k")
        self.refused(f, main(NUM, ("let", "x", N, ("call", "f", ("var", "x")))))
        self.refused(main(NUM, ("let", "x", N, ("call", "f", ("var", "x")))), f)

    def test_not_visible_in_the_first_part(self):
        x = ("var", "x")
        self.refused(main(NUM, ("let", "x", x, x)))
        self.refused(main(NUM, ("let", "x", x, ONE)))
        self.refused(main(NUMS, ("each", "x", x, x)))
        self.refused(main(NUMS, ("each", "x", ("append", S, x), ONE)))

    def test_not_visible_behind_the_form(self):
        x = ("var", "x")
        self.refused(main(POINT, ("pair", ("let", "x", N, x), x)))
        self.refused(main(POINT, ("pair", x, ("let", "x", N, x))))
        self.refused(main(pair(NUMS, NUM), ("pair", ("each", "x", S, x), x)))
        self.refused(main(NUM, ("let", "y", ("let", "x", N, x), x)))
        self.refused(main(NUMS, ("each", "y", ("each", "x", S, x), x)))
        self.refused(main(NUM, ("at", ("each", "x", S, x), x)))
        self.refused(function("f", NUM, NUM, ("let", "x", V, x)), function("g", NUM, NUM, x))

    def test_visible_in_all_of_b(self):
        x = ("var", "x")
        inside = ("if", x, ("let", "y", x, ("op", "+", ("var", "y"), x)), ("sum", ("each", "z", S, x)))
        self.accepted(main(NUM, ("let", "x", N, inside)))
        self.accepted(main(NUMS, ("each", "x", S, inside)))
        self.accepted(main(ROWS, ("each", "x", R, ("each", "y", x, ("op", "*", ("var", "y"), ("len", x))))))

    def test_an_inner_variable_hides_an_outer_one(self):
        x = ("var", "x")
        self.accepted(main(NUMS, ("let", "x", N, ("let", "x", S, x))))
        self.refused(main(NUM, ("let", "x", N, ("let", "x", S, x))))
        self.accepted(main(ROWS, ("let", "x", P, ("each", "x", R, x))))
        self.refused(main(seq(POINT), ("let", "x", P, ("each", "x", R, x))))
        self.accepted(main(seq(ROWS), ("each", "x", R, ("each", "x", R, x))))
        self.accepted(main(ROWS, ("each", "x", R, ("each", "x", x, x))))
        self.accepted(main(NUMS, ("let", "v", S, V)))
        self.refused(main(GIVEN, ("let", "v", S, V)))
        self.accepted(function("f", ROWS, ROWS, ("each", "v", V, ("each", "v", V, ("op", "+", V, V)))))
        self.accepted(function("f", NUM, NUM, ("let", "v", ("iota", V), ("sum", V))))

    def test_an_outer_variable_is_visible_again(self):
        x = ("var", "x")
        for inner in [("let", "x", S, ("sum", x)), ("len", ("each", "x", S, x))]:
            self.accepted(main(NUM, ("let", "x", N, ("op", "+", inner, x))))
            self.accepted(main(NUM, ("let", "x", N, ("op", "+", ("op", "+", inner, inner), x))))
            self.refused(main(NUM, ("let", "x", P, ("op", "+", inner, x))))
            self.refused(main(POINT, ("pair", ("let", "x", N, ("op", "+", inner, x)), x)))
        self.accepted(main(GIVEN, ("second", ("pair", ("let", "v", ONE, V), V))))
        self.accepted(main(GIVEN, ("second", ("pair", ("each", "v", R, V), V))))

    def test_functions_are_no_variables_and_variables_no_functions(self):
        f = function("f", NUM, NUM, V)
        self.refused(f, function("g", NUM, NUM, ("var", "f")))
        self.refused(f, function("g", NUM, NUM, ("let", "h", V, ("call", "h", V))))
        self.refused(f, function("g", NUM, NUM, ("call", "v", V)))
        self.accepted(f, function("g", NUM, NUM, ("let", "f", V, ("call", "f", ("var", "f")))))


class Functions(CheckCase):
    def test_calls_of_itself(self):
        down = ("if", V, ("call", "f", ("op", "-", V, ONE)), ONE)
        self.accepted(function("f", NUM, NUM, down))
        self.refused(function("f", NUM, NUMS, down))
        self.refused(function("f", NUMS, NUM, ("call", "f", ONE)))
        self.refused(function("f", NUM, NUMS, ("iota", ("call", "f", V))))

    def test_calls_of_earlier_and_later_functions(self):
        f = function("f", NUM, NUMS, ("iota", V))
        g = function("g", NUMS, NUM, ("sum", V))
        h = function("h", NUM, NUM, ("call", "g", ("call", "f", V)))
        for program in [(f, g, h), (h, g, f), (f, h, g), (g, h, f), (h, f, g)]:
            self.accepted(*program)
        self.refused(f, h)
        self.refused(h, g)
        self.refused(h)
        bad = function("h", NUM, NUM, ("call", "f", ("call", "g", V)))
        for program in [(f, g, bad), (bad, f, g), (f, bad, g)]:
            self.refused(*program)

    def test_functions_that_call_each_other(self):
        f = function("f", NUM, NUM, ("if", V, ("call", "g", ("iota", V)), ONE))
        g = function("g", NUMS, NUM, ("call", "f", ("len", V)))
        self.accepted(f, g)
        self.accepted(g, f)

    def test_unknown_functions(self):
        self.refused(function("f", NUM, NUM, ("call", "g", V)))
        self.refused(function("f", NUM, NUM, ("call", "", V)))
        self.refused(function("f", NUM, NUM, ("if", V, V, ("call", "F", V))))

    def test_two_functions_of_one_name(self):
        f = function("f", NUM, NUM, V)
        self.refused(f, f)
        self.refused(f, function("f", NUMS, NUMS, V))
        self.refused(f, function("g", NUM, NUM, V), function("f", NUM, NUM, ONE))
        self.accepted(f, function("g", NUM, NUM, V), function("h", NUM, NUM, V))

    def test_every_body_is_checked(self):
        good = [function(name, NUM, NUM, V) for name in "fgh"]
        self.accepted(*good)
        for at in range(3):
            for body in [("iota", V), UNKNOWN, ("op", "?", V, V), ("call", "k", V), ("sum", V)]:
                program = list(good)
                program[at] = function("fgh"[at], NUM, NUM, body)
                self.refused(*program)

    def test_kind_errors_are_flat_errors(self):
        with self.assertRaises(FlatError):
            check([function("f", NUM, NUMS, V)])


class Sizes(CheckCase):
    def test_kinds_that_differ_deep_inside(self):
        kinds = [NUM, NUMS, POINT]
        for _ in range(2):
            kinds = [seq(kind) for kind in kinds] + [pair(NUM, kind) for kind in kinds] + kinds[:2]
        for at, kind in enumerate(kinds):
            for other in kinds[at + 1:]:
                if kind != other:
                    self.refused(function("f", kind, other, V))
            self.accepted(function("f", kind, kind, V))

    def test_deeply_nested_expressions(self):
        e, rows, x = N, S, ("var", "x")
        for _ in range(20000):
            e = ("op", "+", ONE, e)
            rows = ("let", "x", rows, ("append", x, x))
        self.accepted(main(NUM, e))
        self.accepted(main(NUMS, rows))
        self.refused(main(NUMS, e))
        self.refused(main(NUM, ("op", "+", e, S)))

    def test_deeply_nested_kinds(self):
        deep = deeper = NUM
        e, flat = V, V
        for _ in range(3000):
            deep = pair(NUM, deep)
            deeper = ("seq", deeper)
            e = ("second", e)
            flat = ("each", "x", flat, ONE)
        self.accepted(function("f", deep, NUM, e))
        self.accepted(function("f", deep, deep, ("if", ONE, V, V)))
        self.refused(function("f", deep, pair(NUM, deep), V))
        self.accepted(function("f", deeper, deeper, ("append", V, V)))
        self.refused(function("f", deeper, seq(deeper), ("append", V, V)))
        self.accepted(function("f", NUMS, NUMS, flat))

    def test_a_pair_doubled_again_and_again(self):
        x = ("var", "x")
        doubled = x
        for _ in range(200):
            doubled = ("let", "x", ("pair", x, x), doubled)
        more = ("let", "x", ("pair", x, x), doubled)
        # Too large to be gone through, so the kinds are not compared part by part.
        for e in (("if", ONE, doubled, doubled), ("if", ONE, more, ("pair", doubled, doubled))):
            self.accepted(function("f", NUM, NUM, ("let", "y", e, ONE), param="x"))
        self.refused(function("f", NUM, NUM, ("let", "y", ("if", ONE, doubled, more), ONE), param="x"))

    def test_many_functions(self):
        chain = [function(f"f{k}", NUM, NUM, ("call", f"f{k + 1}", V)) for k in range(2000)]
        self.refused(*chain)
        self.accepted(*chain, function("f2000", NUM, NUM, V))


class Arguments(CheckCase):
    def test_the_program_stays(self):
        good = [function("f", NUM, NUMS, ("each", "x", ("iota", V), ("let", "y", ("var", "x"), V))),
                function("g", NUM, NUM, ("sum", ("call", "f", V)))]
        bad = good + [function("h", NUM, NUM, ("call", "f", V))]
        for program in (good, bad):
            before = copy.deepcopy(program)
            try:
                check(program)
            except KindError:
                self.assertIs(program, bad)
            self.assertEqual(program, before)

    def test_one_check_says_nothing_of_the_next(self):
        good = [function("f", NUM, NUM, V)]
        for _ in range(2):
            self.assertIsNone(check(good))
            self.refused(function("f", NUM, NUMS, V))
            self.refused(function("g", NUM, NUM, ("call", "f", V)))


if __name__ == "__main__":
    unittest.main()
