"""The plain meaning, written down once more as points 5 to 9 say it, by recursion and without care for speed."""

from flatsheaves.errors import TrapError
from flatsheaves.kinds import free_names
from flatsheaves.numbers import calculate, wrapped


def plain_size(value):
    if isinstance(value, tuple):
        return plain_size(value[0]) + plain_size(value[1])
    if isinstance(value, list):
        return 1 + sum(plain_size(element) for element in value)
    return 1


class Reference:
    def __init__(self, program):
        self.functions = {f[1]: f for f in program}
        self.work = 0
        self.calls = 0
        self.depth = 0

    def call(self, name, value):
        if self.depth == 40:
            raise TrapError("calls")
        self.depth += 1
        self.calls += 1
        f = self.functions[name]
        result = self.value(f[5], {f[2]: value})
        self.depth -= 1
        return result

    def free_sizes(self, e, names, without=None):
        return sum(plain_size(names[x]) for x in free_names(e) if x != without)

    def value(self, e, names):
        self.work += 1
        form = e[0]
        if form == "num":
            return e[1]
        if form == "var":
            return names[e[1]]
        if form == "let":
            value = self.value(e[2], names)
            return self.value(e[3], {**names, e[1]: value})
        if form == "if":
            result = self.value(e[2] if self.value(e[1], names) != 0 else e[3], names)
            self.work += self.free_sizes(e[2], names) + self.free_sizes(e[3], names) + plain_size(result)
            return result
        if form == "op":
            a = self.value(e[2], names)
            return calculate(e[1], a, self.value(e[3], names))
        if form == "each":
            row = self.value(e[2], names)
            self.work += plain_size(row) + (1 + len(row)) * (1 + self.free_sizes(e[3], names, e[1]))
            return [self.value(e[3], {**names, e[1]: element}) for element in row]
        if form == "call":
            return self.call(e[1], self.value(e[2], names))
        return self.of_parts(form, [self.value(part, names) for part in e[1:]])

    def of_parts(self, form, parts):
        if form in ("at", "sum", "flat", "keep", "append"):
            self.work += sum(plain_size(part) for part in parts)
        a = parts[0]
        if form == "pair":
            return tuple(parts)
        if form == "first":
            return a[0]
        if form == "second":
            return a[1]
        if form == "iota":
            if not 0 <= a <= 1000:
                raise TrapError("iota")
            self.work += a
            return list(range(a))
        if form == "len":
            return len(a)
        if form == "sum":
            return wrapped(sum(a))
        if form == "flat":
            return [element for row in a for element in row]
        b = parts[1]
        if form == "at":
            if not 0 <= b < len(a):
                raise TrapError("at")
            return a[b]
        if form == "append":
            return a + b
        if len(a) != len(b):
            raise TrapError("keep")
        return [element for element, mark in zip(a, b) if mark]


def reference(program, name, value):
    """What `evaluate` should return."""
    run = Reference(program)
    result = run.call(name, value)
    return result, run.work


def counted(program, name, value):
    """The result, the work and the number of calls, the first one included."""
    run = Reference(program)
    result = run.call(name, value)
    return result, run.work, run.calls
