"""Which vectors of a block are needed at the same time, and slots that they can share."""

from heapq import heappop, heappush

from flatsheaves.machine import Machine
from flatsheaves.shapes import vector_count


def live(block):
    """Return the list of the lists of the registers that are live behind the start and each instruction."""
    spans = spans_of(block)
    beginning = [[] for _ in range(len(block[4]) + 1)]
    for number, (first, _) in spans.items():
        beginning[first + 1].append(number)
    rows = []
    now = []
    for index, new in enumerate(beginning, start=-1):
        now = sorted([number for number in now if spans[number][1] >= index] + new)
        rows.append(now)
    return rows


def fewest(block):
    """Return the least number of slots of a right plan, and the least index behind which all are taken."""
    changes = [0] * (len(block[4]) + 2)
    for first, last in spans_of(block).values():
        changes[first + 1] += 1
        changes[last + 2] -= 1
    now = 0
    best = (0, -1)
    for index, change in enumerate(changes, start=-1):
        now += change
        if now > best[0]:
            best = (now, index)
    return best


def plan(block):
    """Return a plan that is right and has as few slots as possible."""
    slots = {}
    free = []
    # The slots that are taken, with the last index behind which they are.
    taken = []
    for number, (first, last) in spans_of(block).items():
        while taken and taken[0][0] < first:
            free.append(heappop(taken)[1])
        # With none free, the slots so far are all taken behind this index: a new one is needed.
        slots[number] = free.pop() if free else len(taken)
        heappush(taken, (last, slots[number]))
    return slots


def plan_right(block, slots):
    """Return True if a plan of a block is right, otherwise False."""
    lasts = {}
    for number, (first, last) in spans_of(block).items():
        if number not in slots:
            return False
        slot = slots[number]
        # The registers come in the order in which they are set: only the last one can be live here.
        if slot in lasts and lasts[slot] >= first:
            return False
        lasts[slot] = last
    return True


def run_slots(blocks, plans, name, values):
    """Return the results of a run of a block for a list of values, with the vectors in slots."""
    return Machine(blocks, plans).results_for(name, values)


def spans_of(block):
    """Return for each register the first and the last index behind which it is live.

    The registers stand in the order in which they are set.
    """
    _, _, given, _, code, results = block
    firsts = {number: -1 for number in range(vector_count(given) + 1)}
    for at, (_, _, _, outputs) in enumerate(code):
        for number in outputs:
            firsts[number] = at
    lasts = {number: firsts[number] for number in firsts}
    for at, (_, _, inputs, _) in enumerate(code):
        for number in inputs:
            lasts[number] = at - 1
    for number in results:
        lasts[number] = len(code) - 1
    return {number: (firsts[number], lasts[number]) for number in firsts}
