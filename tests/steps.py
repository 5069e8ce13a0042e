"""What points 18 and 21 say of blocks, read word by word and without care for speed."""


def all_steps(blocks):
    """Every drop and every share that speaks of instructions that are there."""
    steps = []
    for _, name, _, _, code, _ in blocks:
        for at in range(len(code)):
            steps.append(("drop", name, at))
            steps.extend([("share", name, at, earlier) for earlier in range(len(code))])
    return steps


def is_accepted(blocks, step):
    block = [block for block in blocks if block[1] == step[1]][0]
    code, results = block[4], block[5]
    name, extra, inputs, outputs = code[step[2]]
    if step[0] == "share":
        other = code[step[3]]
        return step[3] < step[2] and name != "call" and (name, extra, inputs) == other[:3]
    if name in ("place", "range", "same", "call") or (name == "calc" and extra in ("/", "mod")):
        return False
    used = results + [number for instruction in code[step[2] + 1:] for number in instruction[2]]
    return not any(number in used for number in outputs)


def after(blocks, step):
    """The vector program behind a step that is accepted."""
    return [block if block[1] != step[1] else block[:4] + code_after(block[4], block[5], step) for block in blocks]


def code_after(code, results, step):
    rest = code[:step[2]] + code[step[2] + 1:]
    if step[0] == "drop":
        return rest, results
    old, new = code[step[2]][3][0], code[step[3]][3][0]
    rest = [(name, extra, [new if k == old else k for k in inputs], outputs) for name, extra, inputs, outputs in rest]
    return rest, [new if k == old else k for k in results]


def beginning(block):
    """The registers that a block begins with."""
    waiting, many = [block[2]], 0
    while waiting:
        kind = waiting.pop()
        many += kind[0] != "pair"
        waiting.extend(kind[1:])
    return list(range(1 + many))


def all_registers(block):
    return beginning(block) + [number for instruction in block[4] for number in instruction[3]]


def is_live(block, number, index):
    """Whether a register is live behind an instruction, or behind the start with the index -1."""
    code, results = block[4], block[5]
    if index == -1:
        return number in beginning(block)
    if number in code[index][3]:
        return True
    before = beginning(block) + [k for instruction in code[:index] for k in instruction[3]]
    later = [k for instruction in code[index + 1:] for k in instruction[2]]
    return number in before and (number in later or number in results)


def all_live(block):
    return [sorted(number for number in all_registers(block) if is_live(block, number, index))
            for index in range(-1, len(block[4]))]


def is_right(block, slots):
    if any(number not in slots for number in all_registers(block)):
        return False
    rows = [[slots[number] for number in row] for row in all_live(block)]
    return all(len(row) == len(set(row)) for row in rows)
