"""Short names for kinds, expressions and programs, for the tests."""

NUM = ("num",)
LOW = -2147483648
HIGH = 2147483647


def seq(kind):
    return ("seq", kind)


def both(first, second):
    return ("pair", first, second)


NUMS = seq(NUM)
ROWS = seq(NUMS)
POINT = both(NUM, NUM)


def num(n):
    return ("num", n)


def var(x):
    return ("var", x)


def op(sign, a, b):
    return ("op", sign, a, b)


def function(name, given, result, body, param="v"):
    return ("function", name, param, given, result, body)


def block(code, results, given=NUM, result=NUM, name="f"):
    return ("block", name, given, result, code, results)


def spoil(value):
    """Change every list and every dict in a value."""
    waiting = [value]
    while waiting:
        part = waiting.pop()
        if isinstance(part, dict):
            waiting.extend(part.values())
            part["spoiled"] = "spoiled"
        elif isinstance(part, (list, tuple)):
            waiting.extend(part)
        if isinstance(part, list):
            part.append("spoiled")


V = var("v")
X = var("x")
Y = var("y")
ONE = num(1)
TWO = num(2)
TRAP = op("/", ONE, num(0))
