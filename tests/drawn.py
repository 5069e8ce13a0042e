"""Drawn programs with what the plain meaning gives for their values, made once for all tests."""

from functools import cache

from flatsheaves.errors import TrapError
from flatsheaves.flatten import flatten
from programs import made, made_ring
from reference import counted


class Drawn:
    """A program, its blocks, and for each value the triple of result, work and calls, or "trap"."""

    def __init__(self, program, name, values):
        self.program = program
        self.name = name
        self.values = values
        self.blocks = flatten(program)
        self.outcomes = [outcome(counted, program, name, value) for value in values]
        self.good = [value for value, found in zip(values, self.outcomes) if found != "trap"]
        self.counts = [found for found in self.outcomes if found != "trap"]
        self.results = [found[0] for found in self.counts]


def outcome(run, *arguments):
    try:
        return run(*arguments)
    except TrapError:
        return "trap"


@cache
def drawn():
    return [Drawn(*made(seed)) for seed in range(700)] + [Drawn(*made_ring(seed)) for seed in range(100, 600)]


def small(many):
    """The drawn programs with fewer instructions than that, for tests that try every pair of them."""
    return [one for one in drawn() if sum(len(block[4]) for block in one.blocks) < many]
