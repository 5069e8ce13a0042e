"""The machine that runs vector programs, with a count of steps and touches."""

from flatsheaves.errors import TrapError
from flatsheaves.layouts import values_of, vectors_of
from flatsheaves.vectors import execute

BLOCK_LIMIT = 40


def run(blocks, name, values):
    """Return the results of a run of a block for a list of values, its steps and its touches."""
    machine = Machine(blocks, {})
    results = machine.results_for(name, values)
    return results, machine.steps, machine.touches


class Store:
    """The vectors of a block that is run, each in the slot of its register.

    Without slots (None), each register has a place of its own.
    """

    def __init__(self, slots):
        self.slots = slots
        self.vectors = {}

    def place(self, number):
        return number if self.slots is None else self.slots[number]

    def read(self, registers):
        return [self.vectors[self.place(number)] for number in registers]

    def write(self, registers, vectors):
        for number, vector in zip(registers, vectors):
            self.vectors[self.place(number)] = vector


class Machine:
    """A run: the blocks with their plans, if they have any, and what has been counted.

    No vector is modified, so a vector can be in several stores at once.
    """

    def __init__(self, blocks, plans):
        self.blocks = {block[1]: block for block in blocks}
        self.plans = plans
        self.steps = 0
        self.touches = 0
        # The number of the blocks that have not ended.
        self.depth = 0

    def results_for(self, name, values):
        """Return the results of a block for a list of values."""
        if not values:
            return []
        _, _, given, result, _, _ = self.blocks[name]
        lanes = list(range(len(values)))
        return values_of(result, self.run_block(name, [lanes, *vectors_of(given, values)]))

    def run_block(self, name, vectors):
        """Return the vectors of the result of a block, for those that it begins with."""
        if self.depth == BLOCK_LIMIT:
            raise TrapError("too many blocks inside of each other")
        self.depth += 1
        _, _, _, _, code, results = self.blocks[name]
        store = Store(self.plans.get(name))
        store.write(list(range(len(vectors))), vectors)
        for instruction in code:
            self.run_instruction(instruction, store)
        self.depth -= 1
        return store.read(results)

    def run_instruction(self, instruction, store):
        name, extra, inputs, outputs = instruction
        vectors = store.read(inputs)
        self.steps += 1
        if name == "call":
            found = self.run_call(extra, vectors, len(outputs))
        else:
            found = [execute(name, extra, vectors)]
            self.touches += sum([len(vector) for vector in vectors + found])
        store.write(outputs, found)

    def run_call(self, name, vectors, many):
        """Return the vectors that a call gives for its inputs; without lanes, no block is run."""
        if not vectors[0]:
            return [[] for _ in range(many)]
        return self.run_block(name, vectors)
