"""Well typed programs and values for them, made up from a number, the same ones each time."""

import random

from building import HIGH, LOW, NUM, both, function, num, op, seq, var

SIGNS = ("+", "-", "*", "/", "mod", "min", "max", "<", "=")
NAMES = ("v", "x", "y", "z")


class Maker:
    def __init__(self, seed):
        self.random = random.Random(seed)
        self.callable = []

    def kind(self, depth):
        form = self.random.choice(["num", "num", "pair", "seq", "seq"]) if depth else "num"
        if form == "num":
            return NUM
        if form == "seq":
            return seq(self.kind(depth - 1))
        return both(self.kind(depth - 1), self.kind(depth - 1))

    def number(self):
        return self.random.choice([0, 0, 1, 1, 2, 3, -1, -2, 7, LOW, HIGH])

    def value(self, kind):
        if kind[0] == "num":
            return self.number()
        if kind[0] == "pair":
            return (self.value(kind[1]), self.value(kind[2]))
        return [self.value(kind[1]) for _ in range(self.random.choice([0, 1, 1, 2, 3]))]

    def simple(self, kind):
        """An expression of a kind for which no variable is needed."""
        if kind[0] == "num":
            return num(self.number())
        if kind[0] == "pair":
            return ("pair", self.simple(kind[1]), self.simple(kind[2]))
        return ("each", "x", ("iota", num(self.random.randrange(3))), self.simple(kind[1]))

    def expression(self, kind, names, depth):
        fitting = [x for x, k in names.items() if k == kind]
        if fitting and self.random.random() < 0.35:
            return var(self.random.choice(fitting))
        if depth == 0:
            return var(self.random.choice(fitting)) if fitting else self.simple(kind)
        return self.random.choice(self.ways(kind))(kind, names, depth - 1)

    def ways(self, kind):
        ways = [self.let, self.choice, self.part, self.at]
        if any(f[4] == kind for f in self.callable):
            ways += [self.call, self.call]
        if kind == NUM:
            ways += [self.op, self.op, self.len, self.sum]
        elif kind[0] == "pair":
            ways += [self.pair] * 3
        else:
            ways += [self.each, self.each, self.flat, self.keep, self.append]
            ways += [self.iota] * (kind == seq(NUM))
        return ways

    def let(self, kind, names, depth):
        x = self.random.choice(NAMES)
        inner = self.kind(2)
        a = self.expression(inner, names, depth)
        return ("let", x, a, self.expression(kind, {**names, x: inner}, depth))

    def choice(self, kind, names, depth):
        c, a, b = [self.expression(k, names, depth) for k in (NUM, kind, kind)]
        return ("if", c, a, b)

    def part(self, kind, names, depth):
        if self.random.random() < 0.5:
            return ("first", self.expression(both(kind, self.kind(1)), names, depth))
        return ("second", self.expression(both(self.kind(1), kind), names, depth))

    def at(self, kind, names, depth):
        s = self.expression(seq(kind), names, depth)
        index = self.expression(NUM, names, depth)
        if self.random.random() < 0.7:
            return ("let", "x", s, ("at", var("x"), op("mod", num(self.random.randrange(3)), ("len", var("x")))))
        return ("at", s, index)

    def call(self, kind, names, depth):
        f = self.random.choice([f for f in self.callable if f[4] == kind])
        return ("call", f[1], self.expression(f[3], names, depth))

    def op(self, kind, names, depth):
        a, b = [self.expression(NUM, names, depth) for _ in range(2)]
        return op(self.random.choice(SIGNS), a, b)

    def len(self, kind, names, depth):
        return ("len", self.expression(seq(self.kind(1)), names, depth))

    def sum(self, kind, names, depth):
        return ("sum", self.expression(seq(NUM), names, depth))

    def pair(self, kind, names, depth):
        return ("pair", self.expression(kind[1], names, depth), self.expression(kind[2], names, depth))

    def each(self, kind, names, depth):
        x = self.random.choice(NAMES)
        inner = self.kind(1)
        s = self.expression(seq(inner), names, depth)
        return ("each", x, s, self.expression(kind[1], {**names, x: inner}, depth))

    def flat(self, kind, names, depth):
        return ("flat", self.expression(seq(kind), names, depth))

    def keep(self, kind, names, depth):
        s = self.expression(kind, names, depth)
        if self.random.random() < 0.2:
            return ("keep", s, self.expression(seq(NUM), names, depth))
        mark = self.expression(NUM, {**names, "y": kind, "z": kind[1]}, depth)
        return ("let", "y", s, ("keep", var("y"), ("each", "z", var("y"), mark)))

    def append(self, kind, names, depth):
        return ("append", self.expression(kind, names, depth), self.expression(kind, names, depth))

    def iota(self, kind, names, depth):
        a = self.expression(NUM, names, depth)
        return ("iota", a if self.random.random() < 0.2 else op("mod", a, num(4)))

    def program(self):
        """A program whose functions call only those made before them, which may stand before or behind."""
        for k in range(self.random.randrange(1, 4)):
            given, result = self.kind(3), self.kind(3)
            body = self.expression(result, {"v": given}, 4)
            self.callable.append(function(f"f{k}", given, result, body))
        shuffled = list(self.callable)
        self.random.shuffle(shuffled)
        return shuffled


class RingMaker(Maker):
    """Programs whose functions call themselves, earlier and later ones, in rings as well.

    The first part of each parameter is a number that every call makes smaller, and a function
    makes calls only as long as it is not too small.
    """

    def program(self):
        kinds = [NUM, seq(NUM), both(NUM, NUM), seq(seq(NUM)), seq(both(NUM, NUM))]
        many = self.random.randrange(1, 5)
        kinds = self.random.sample(kinds, 2)
        heads = [(f"f{k}", both(NUM, self.random.choice(kinds)), self.random.choice(kinds)) for k in range(many)]
        return [function(*head, self.body(*head[1:], heads), "p") for head in heads]

    def body(self, given, result, heads):
        names = {"p": given, "v": given[2]}
        self.callable = [function(*head, None) for head in heads]
        some = self.expression(result, names, 3)
        while "'call'" not in repr(some):
            some = self.expression(result, names, 3)
        self.callable = []
        none = self.expression(result, names, 3)
        inner = ("if", op("<", num(0), ("first", var("p"))), some, none)
        return ("let", "v", ("second", var("p")), inner)

    def ways(self, kind):
        ways = super().ways(kind)
        return ways + [self.call] * 5 if self.call in ways else ways

    def call(self, kind, names, depth):
        f = self.random.choice([f for f in self.callable if f[4] == kind])
        inner = self.expression(f[3][2], names, depth)
        return ("call", f[1], ("pair", op("-", ("first", var("p")), num(1)), inner))

    def value_with(self, fuel, kind):
        return (fuel, self.value(kind[2]))


def made_ring(seed):
    """A program with calls in rings, the name of one of its functions, and values for it."""
    maker = RingMaker(seed)
    program = maker.program()
    _, name, _, given, _, _ = maker.random.choice(program)
    return program, name, [maker.value_with(fuel, given) for fuel in (0, 1, 2, 3)]


def made(seed):
    """A program, the name of one of its functions, and values for it."""
    maker = Maker(seed)
    program = maker.program()
    _, name, _, given, _, _ = maker.callable[-1]
    return program, name, [maker.value(given) for _ in range(4)]
