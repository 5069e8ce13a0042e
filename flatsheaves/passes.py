"""Steps that rewrite vector programs without a change of their results and traps."""

from flatsheaves.errors import PaperError

# The instructions that can trap, or run a block that can; `calc` can trap with some signs.
KEPT = ("place", "range", "same", "call")
KEPT_SIGNS = ("/", "mod")


def rewrite(blocks, paper):
    """Return the vector program after all steps of a list, or raise PaperError."""
    drafts = {block[1]: Draft(block) for block in blocks}
    for at, step in enumerate(paper):
        if step[1] not in drafts or not drafts[step[1]].accepts(step):
            raise PaperError(at)
        drafts[step[1]].apply(step)
    return [drafts[block[1]].finished() for block in blocks]


def improve(blocks):
    """Return a list of steps that are accepted, after which no step is accepted any more."""
    paper = []
    for _, name, _, _, code, results in blocks:
        shares, kept, last = shares_of(name, code, results)
        paper.extend(shares)
        # The drops come last: they change no inputs, so they make no more shares possible.
        paper.extend(drops_of(name, kept, last))
    return paper


def can_be_dropped(name, extra):
    """Tell whether an instruction can be left out if nobody uses its outputs."""
    return name not in KEPT and not (name == "calc" and extra in KEPT_SIGNS)


class Row:
    """An instruction of a block that is rewritten."""

    def __init__(self, name, extra, inputs, outputs):
        self.name = name
        self.extra = extra
        self.inputs = list(inputs)
        self.outputs = list(outputs)

    def equals(self, other):
        return (self.name, self.extra, self.inputs) == (other.name, other.extra, other.inputs)


class Draft:
    """A block that is rewritten.

    For each register the rows that use it are known, so no step goes through the whole block.
    The results are a row as well, which stands behind all others and is no instruction.
    """

    def __init__(self, block):
        self.head = block[:4]
        self.rows = [Row(name, extra, inputs, outputs) for name, extra, inputs, outputs in block[4]]
        self.end = Row("results", None, block[5], [])
        self.users = {}
        for row in [*self.rows, self.end]:
            self.note_uses(row)

    def note_uses(self, row):
        for number in row.inputs:
            self.users.setdefault(number, {})[row] = True

    def accepts(self, step):
        match step[0]:
            case "drop":
                return self.accepts_drop(step[2])
            case "share":
                return self.accepts_share(step[2], step[3])
            case _:
                return False

    def accepts_drop(self, at):
        if not 0 <= at < len(self.rows):
            return False
        row = self.rows[at]
        used = [number for number in row.outputs if self.users.get(number)]
        return can_be_dropped(row.name, row.extra) and not used

    def accepts_share(self, at, earlier):
        if not 0 <= earlier < at < len(self.rows):
            return False
        return self.rows[at].name != "call" and self.rows[at].equals(self.rows[earlier])

    def apply(self, step):
        """Take a step that is accepted."""
        if step[0] == "drop":
            self.remove_row(step[2])
        else:
            self.share(step[2], step[3])

    def remove_row(self, at):
        row = self.rows[at]
        del self.rows[at]
        for number in row.inputs:
            # A register that stands twice among the inputs has been seen before.
            self.users[number].pop(row, None)

    def share(self, at, earlier):
        old = self.rows[at].outputs[0]
        new = self.rows[earlier].outputs[0]
        self.remove_row(at)
        for user in list(self.users.pop(old, {})):
            user.inputs = [new if number == old else number for number in user.inputs]
            self.note_uses(user)

    def finished(self):
        code = [(row.name, row.extra, list(row.inputs), list(row.outputs)) for row in self.rows]
        return (*self.head, code, list(self.end.inputs))


def shares_of(block_name, code, results):
    """Return all shares of a block, and the code and the results behind them."""
    shares = []
    kept = []
    places = {}
    renamed = {}
    for name, extra, old_inputs, outputs in code:
        inputs = [renamed.get(number, number) for number in old_inputs]
        key = (name, extra, tuple(inputs))
        if name != "call" and key in places:
            earlier = places[key]
            shares.append(("share", block_name, len(kept), earlier))
            renamed[outputs[0]] = kept[earlier][3][0]
        else:
            places[key] = len(kept)
            kept.append((name, extra, inputs, outputs))
    return shares, kept, [renamed.get(number, number) for number in results]


def drops_of(block_name, code, results):
    """Return all drops of a block, from its end on, so that no drop moves what is looked at later."""
    drops = []
    used = set(results)
    for at in reversed(range(len(code))):
        name, extra, inputs, outputs = code[at]
        needed = [number for number in outputs if number in used]
        if can_be_dropped(name, extra) and not needed:
            drops.append(("drop", block_name, at))
        else:
            for number in inputs:
                used.add(number)
    return drops
