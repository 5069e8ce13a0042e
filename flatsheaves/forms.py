"""The forms whose value follows from the values of their parts alone, on values with their sizes."""

from flatsheaves.errors import TrapError
from flatsheaves.numbers import wrapped
from flatsheaves.sized import pair_of, sequence_of, sizes_of

IOTA_LIMIT = 1000

# The forms that add the sizes of the values of all their parts to the work.
MEASURED = ("at", "sum", "flat", "keep", "append")


def value_of_form(form, parts):
    """Return the value of a form for the values of its parts, or raise TrapError."""
    rule = RULES[form]
    return rule(parts)


def work_of_form(form, parts):
    """Return what a form adds to the work behind the 1 of every expression."""
    if form in MEASURED:
        return sizes_of(parts)
    return parts[0] if form == "iota" else 0


def value_of_pair(parts):
    return pair_of(parts[0], parts[1])


def value_of_first(parts):
    return parts[0].inner[0]


def value_of_second(parts):
    return parts[0].inner[1]


def value_of_iota(parts):
    if not 0 <= parts[0] <= IOTA_LIMIT:
        raise TrapError("iota of a number that is not from 0 to 1000")
    return sequence_of(list(range(parts[0])))


def value_of_len(parts):
    return len(parts[0].inner)


def value_of_at(parts):
    row, index = parts
    if not 0 <= index < len(row.inner):
        raise TrapError("at with an index that no element has")
    return row.inner[index]


def value_of_sum(parts):
    return wrapped(sum(parts[0].inner))


def value_of_flat(parts):
    return sequence_of([value for row in parts[0].inner for value in row.inner])


def value_of_keep(parts):
    row, marks = parts
    if len(row.inner) != len(marks.inner):
        raise TrapError("keep with sequences of unlike lengths")
    return sequence_of([value for value, mark in zip(row.inner, marks.inner) if mark != 0])


def value_of_append(parts):
    return sequence_of(parts[0].inner + parts[1].inner)


RULES = {
    "pair": value_of_pair,
    "first": value_of_first,
    "second": value_of_second,
    "iota": value_of_iota,
    "len": value_of_len,
    "at": value_of_at,
    "sum": value_of_sum,
    "flat": value_of_flat,
    "keep": value_of_keep,
    "append": value_of_append,
}
