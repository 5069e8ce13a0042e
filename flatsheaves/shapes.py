"""The registers that hold the values of a kind in some lanes, arranged as the kind is."""

from flatsheaves.layouts import forms_of


class Shape:
    """The registers of one kind: `form` is "num", "pair" or "seq".

    `vector` is the register of the numbers or of the lengths, and None for a pair. `inner` is the
    list of the shapes of what is inside. No shape is modified, so several can hold the same one,
    and a pair that is doubled again and again stays small.
    """

    def __init__(self, form, vector, inner):
        self.form = form
        self.vector = vector
        self.inner = inner


def num_shape(vector):
    return Shape("num", vector, [])


def pair_shape(first, second):
    return Shape("pair", None, [first, second])


def seq_shape(lengths, element):
    return Shape("seq", lengths, [element])


def vector_count(kind):
    """Return the number of the vectors that hold values of a kind."""
    return len([form for form in forms_of(kind) if form != "pair"])


def shape_of_kind(kind, start):
    """Return the shape of a kind that is held by the registers from `start` on."""
    behind = start + vector_count(kind)
    done = []
    # Backwards, each kind stands behind its parts.
    for form in reversed(forms_of(kind)):
        if form == "pair":
            first = done.pop()
            second = done.pop()
            done.append(pair_shape(first, second))
        else:
            behind -= 1
            done.append(num_shape(behind) if form == "num" else seq_shape(behind, done.pop()))
    return done[0]


def registers_of(shape):
    """Return the list of the registers of a shape, in the order of the layout."""
    found = []
    waiting = [shape]
    while waiting:
        part = waiting.pop()
        if part.form != "pair":
            found.append(part.vector)
        waiting.extend(part.inner[::-1])
    return found
