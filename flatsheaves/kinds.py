"""The kinds of programs: whether a program is well typed, and which variables are free.

Nothing here descends by recursion, so that expressions and kinds can be nested to any depth.
"""

from flatsheaves.errors import KindError
from flatsheaves.numbers import OPERATIONS

BINDERS = ("let", "each")

# The number that every KindTable gives to the kind num.
NUM = 0


def check(program):
    """Return None for a well typed program, otherwise raise KindError."""
    table = KindTable()
    signatures = signatures_of(program, table)
    for _, name, param, _, _, body in program:
        given, result = signatures[name]
        found = BodyCheck(table, signatures, param, given).kind_of_body(body)
        table.need(found, result)


def free_names(e):
    """Return the ascending list of the names of the variables that are free in an expression."""
    free = set()
    bound = {}
    for action, part in steps(e):
        if action == "bind":
            bound[part[1]] = bound.get(part[1], 0) + 1
        elif part[0] in BINDERS:
            bound[part[1]] -= 1
        elif part[0] == "var" and bound.get(part[1], 0) == 0:
            free.add(part[1])
    return sorted(free)


def signatures_of(program, table):
    """Return for the name of each function the kinds of its parameter and of its result."""
    signatures = {}
    for _, name, _, given, result, _ in program:
        if name in signatures:
            raise KindError(f"two functions have the name {name}")
        signatures[name] = (table.number_of(given), table.number_of(result))
    return signatures


def steps(e):
    """Return the way through an expression, as pairs of an action and an expression in it.

    An expression is left ("leave") behind all its parts. The variable of a `let` or an `each`
    is bound ("bind") behind the first of its two parts, and visible until it is left.
    """
    way = []
    waiting = [("enter", e)]
    while waiting:
        action, part = waiting.pop()
        if action == "enter":
            waiting.extend(steps_inside(part)[::-1])
        else:
            way.append((action, part))
    return way


def steps_inside(e):
    """Return the steps of the way through one expression, in which its parts are only entered."""
    inside = [("enter", part) for part in parts_of(e)]
    if e[0] in BINDERS:
        inside.insert(1, ("bind", e))
    inside.append(("leave", e))
    return inside


def parts_of(e):
    """Return the list of the expressions that an expression consists of, from left to right."""
    match e[0]:
        case "num" | "var":
            return []
        case "let" | "op" | "each" | "call":
            return list(e[2:])
        case _:
            return list(e[1:])


class KindTable:
    """Numbers for kinds: two kinds are the same if they have the same number.

    So comparing kinds is one step, also where a kind has been built by doubling a pair again
    and again, and is far too large to go through.
    """

    def __init__(self):
        self.shapes = [("num",)]
        self.numbers = {("num",): NUM}

    def number(self, shape):
        """Return the number of a kind whose own parts are given as numbers."""
        if shape not in self.numbers:
            self.numbers[shape] = len(self.shapes)
            self.shapes.append(shape)
        return self.numbers[shape]

    def number_of(self, kind):
        """Return the number of a kind."""
        order = []
        waiting = [kind]
        while waiting:
            part = waiting.pop()
            order.append(part)
            waiting.extend(part[1:])
        done = []
        # Backwards, each kind stands behind its parts.
        for part in reversed(order):
            inner = taken_off(done, len(part) - 1)
            done.append(self.number((part[0], *inner)))
        return done[0]

    def pair(self, first, second):
        return self.number(("pair", first, second))

    def seq(self, element):
        return self.number(("seq", element))

    def parts(self, kind, form):
        """Return the parts of a kind, which must be of the form "pair" or "seq"."""
        shape = self.shapes[kind]
        if shape[0] != form:
            raise KindError(f"a {form} is needed, and this is a {shape[0]}")
        return shape[1:]

    def element(self, kind):
        """Return the kind of what is in a sequence."""
        return self.parts(kind, "seq")[0]

    def need(self, kind, needed):
        if kind != needed:
            raise KindError(f"a {self.shapes[kind][0]} of another kind than the {self.shapes[needed][0]} needed")


def taken_off(stack, many):
    """Take the last items off a list, and return them in their order."""
    start = len(stack) - many
    taken = stack[start:]
    del stack[start:]
    return taken


class BodyCheck:
    """The check of the body of one function."""

    def __init__(self, table, signatures, param, given):
        self.table = table
        self.signatures = signatures
        # A name has a list of kinds, because a hidden variable is visible again later on.
        self.visible = {param: [given]}
        self.done = []

    def kind_of_body(self, body):
        for action, e in steps(body):
            if action == "bind":
                self.bind(e)
            else:
                self.leave(e)
        return self.done.pop()

    def bind(self, e):
        """Make the variable of a `let` or an `each` visible."""
        kind = self.done[-1]
        if e[0] == "each":
            kind = self.table.element(kind)
        self.visible.setdefault(e[1], []).append(kind)

    def leave(self, e):
        """Put the kind of an expression in the place of those of its parts."""
        if e[0] in BINDERS:
            self.visible[e[1]].pop()
        parts = taken_off(self.done, len(parts_of(e)))
        self.done.append(self.kind_of(e, parts))

    def kind_of(self, e, parts):
        match e[0]:
            case "num":
                return NUM
            case "var":
                return self.kind_of_variable(e[1])
            case "op":
                return self.kind_of_operation(e[1], parts)
            case "call":
                return self.kind_of_call(e[1], parts[0])
            case form:
                rule = RULES[form]
                return rule(self.table, parts)

    def kind_of_variable(self, name):
        kinds = self.visible.get(name, [])
        if not kinds:
            raise KindError(f"no variable {name} is visible")
        return kinds[-1]

    def kind_of_operation(self, sign, parts):
        if sign not in OPERATIONS:
            raise KindError(f"there is no sign {sign}")
        for part in parts:
            self.table.need(part, NUM)
        return NUM

    def kind_of_call(self, name, argument):
        if name not in self.signatures:
            raise KindError(f"there is no function {name}")
        given, result = self.signatures[name]
        self.table.need(argument, given)
        return result


def kind_of_let(table, parts):
    return parts[1]


def kind_of_if(table, parts):
    condition, kind, other = parts
    table.need(condition, NUM)
    table.need(other, kind)
    return kind


def kind_of_pair(table, parts):
    return table.pair(parts[0], parts[1])


def kind_of_first(table, parts):
    return table.parts(parts[0], "pair")[0]


def kind_of_second(table, parts):
    return table.parts(parts[0], "pair")[1]


def kind_of_each(table, parts):
    return table.seq(parts[1])


def kind_of_iota(table, parts):
    table.need(parts[0], NUM)
    return table.seq(NUM)


def kind_of_len(table, parts):
    table.element(parts[0])
    return NUM


def kind_of_at(table, parts):
    table.need(parts[1], NUM)
    return table.element(parts[0])


def kind_of_sum(table, parts):
    table.need(table.element(parts[0]), NUM)
    return NUM


def kind_of_flat(table, parts):
    kind = table.element(parts[0])
    table.element(kind)
    return kind


def kind_of_keep(table, parts):
    kind, marks = parts
    table.element(kind)
    table.need(table.element(marks), NUM)
    return kind


def kind_of_append(table, parts):
    kind, other = parts
    table.element(kind)
    table.need(other, kind)
    return kind


# The forms whose kind follows from the kinds of their parts alone.
RULES = {
    "let": kind_of_let,
    "if": kind_of_if,
    "pair": kind_of_pair,
    "first": kind_of_first,
    "second": kind_of_second,
    "each": kind_of_each,
    "iota": kind_of_iota,
    "len": kind_of_len,
    "at": kind_of_at,
    "sum": kind_of_sum,
    "flat": kind_of_flat,
    "keep": kind_of_keep,
    "append": kind_of_append,
}
