"""The values of the plain meaning, each with its size.

The work of a program asks for the size of one value again and again. A value that carries its
size is not gone through for it, and one that holds another one many times is no larger here.
"""

from flatsheaves.kinds import taken_off


class Sized:
    """A pair or a sequence with its size: `inner` is a tuple of two values or a list of values.

    A number stands for itself. No list is modified once it is held, so several values can hold it.
    """

    def __init__(self, size, inner):
        self.size = size
        self.inner = inner


def size_of(value):
    """Return the size of a value that is a number or carries its size."""
    return 1 if isinstance(value, int) else value.size


def sizes_of(values):
    """Return the sum of the sizes of values."""
    return sum([size_of(value) for value in values])


def pair_of(first, second):
    return Sized(size_of(first) + size_of(second), (first, second))


def sequence_of(values):
    return Sized(1 + sizes_of(values), values)


def sized(value):
    """Return a value with its size, and with the sizes of all its parts."""
    order = []
    waiting = [value]
    while waiting:
        part = waiting.pop()
        order.append(part)
        if not isinstance(part, int):
            waiting.extend(part)
    done = []
    # Backwards, each value stands behind its parts.
    for part in reversed(order):
        if isinstance(part, int):
            done.append(part)
        else:
            inner = taken_off(done, len(part))
            done.append(pair_of(inner[0], inner[1]) if isinstance(part, tuple) else sequence_of(inner))
    return done[0]


def without_size(value):
    """Return a value without its size, in which every list is a new one."""
    order = []
    waiting = [value]
    while waiting:
        part = waiting.pop()
        order.append(part)
        if isinstance(part, Sized):
            waiting.extend(part.inner)
    done = []
    # Backwards, each value stands behind its parts.
    for part in reversed(order):
        if isinstance(part, Sized):
            inner = taken_off(done, len(part.inner))
            done.append(tuple(inner) if isinstance(part.inner, tuple) else inner)
        else:
            done.append(part)
    return done[0]
