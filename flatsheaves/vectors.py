"""The instructions on whole vectors that have one output."""

from flatsheaves.errors import TrapError
from flatsheaves.numbers import calculate, wrapped

RANGE_LIMIT = 1000


def execute(name, extra, inputs):
    """Return the vector that an instruction gives for its input vectors, or raise TrapError."""
    instruction = INSTRUCTIONS[name]
    return instruction(extra, inputs)


def starts_of(lengths):
    """Return the index at which each segment begins."""
    starts = []
    start = 0
    for length in lengths:
        starts.append(start)
        start += length
    return starts


def fill(extra, inputs):
    return [extra for _ in inputs[0]]


def calc(extra, inputs):
    return [calculate(extra, a, b) for a, b in zip(inputs[0], inputs[1])]


def take(_, inputs):
    vector, indexes = inputs
    return [vector[index] for index in indexes]


def pick(_, inputs):
    lengths, segments = inputs
    starts = starts_of(lengths)
    return [index for at in segments for index in range(starts[at], starts[at] + lengths[at])]


def repeat(_, inputs):
    return [at for at, length in enumerate(inputs[0]) for _ in range(length)]


def count(_, inputs):
    return [k for length in inputs[0] for k in range(length)]


def where(extra, inputs):
    return [index for index, item in enumerate(inputs[0]) if (item != 0) == extra]


def weave(_, inputs):
    marked = 0
    others = len([item for item in inputs[0] if item != 0])
    numbers = []
    for item in inputs[0]:
        if item != 0:
            numbers.append(marked)
            marked += 1
        else:
            numbers.append(others)
            others += 1
    return numbers


def join(_, inputs):
    return inputs[0] + inputs[1]


def sums(_, inputs):
    lengths, vector = inputs
    starts = starts_of(lengths)
    return [wrapped(sum(vector[start:start + length])) for start, length in zip(starts, lengths)]


def zip_segments(_, inputs):
    lengths, others = inputs
    behind = sum(lengths)
    indexes = []
    for start, length, other_start, other in zip(starts_of(lengths), lengths, starts_of(others), others):
        indexes.extend(list(range(start, start + length)))
        indexes.extend(list(range(behind + other_start, behind + other_start + other)))
    return indexes


def place(_, inputs):
    lengths, places = inputs
    indexes = []
    for start, length, at in zip(starts_of(lengths), lengths, places):
        if not 0 <= at < length:
            raise TrapError("a place that is not in its segment")
        indexes.append(start + at)
    return indexes


def need_range(_, inputs):
    for item in inputs[0]:
        if not 0 <= item <= RANGE_LIMIT:
            raise TrapError("an item that is not from 0 to 1000")
    return list(inputs[0])


def need_same(_, inputs):
    if inputs[0] != inputs[1]:
        raise TrapError("two vectors that differ")
    return list(inputs[0])


def flags(_, inputs):
    return [1 if item != 0 else 0 for item in inputs[0]]


INSTRUCTIONS = {
    "fill": fill,
    "calc": calc,
    "take": take,
    "pick": pick,
    "repeat": repeat,
    "count": count,
    "where": where,
    "weave": weave,
    "join": join,
    "sums": sums,
    "zip": zip_segments,
    "place": place,
    "range": need_range,
    "same": need_same,
    "flags": flags,
}
