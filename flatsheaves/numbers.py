"""The operations on the numbers of the language, which are wrapped to 32 bits."""

from flatsheaves.errors import TrapError

HALF = 2147483648
SPAN = 4294967296


def wrapped(n):
    """Return an integer modulo 2**32 in the range of numbers."""
    return (n + HALF) % SPAN - HALF


def added(a, b):
    return a + b


def subtracted(a, b):
    return a - b


def multiplied(a, b):
    return a * b


def quotient(a, b):
    if b == 0:
        raise TrapError("a division by 0")
    return a // b


def remainder(a, b):
    if b == 0:
        raise TrapError("a remainder of a division by 0")
    return a % b


def smaller(a, b):
    return min(a, b)


def larger(a, b):
    return max(a, b)


def is_less(a, b):
    return 1 if a < b else 0


def is_equal(a, b):
    return 1 if a == b else 0


OPERATIONS = {
    "+": added,
    "-": subtracted,
    "*": multiplied,
    "/": quotient,
    "mod": remainder,
    "min": smaller,
    "max": larger,
    "<": is_less,
    "=": is_equal,
}


def calculate(sign, a, b):
    """Return the result of an operation on two numbers, or raise TrapError."""
    operation = OPERATIONS[sign]
    return wrapped(operation(a, b))
