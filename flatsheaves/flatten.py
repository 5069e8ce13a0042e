"""Programs as vector programs: each expression is computed for all lanes at once.

Nothing here descends by recursion, so that an expression can be nested to any depth.
"""

from flatsheaves.block_code import BlockCode
from flatsheaves.kinds import parts_of, taken_off
from flatsheaves.shapes import num_shape, pair_shape, registers_of, seq_shape

# The steps that stand between the parts of a form: behind its first part, behind its second part.
BETWEEN = {
    "let": ("bind",),
    "each": ("loop",),
    "if": ("then", "otherwise"),
}


def flatten(program):
    """Return the vector program of a well typed program."""
    results = {name: result for _, name, _, _, result, _ in program}
    return [block_of(function, results) for function in program]


def block_of(function, results):
    """Return the block of a function, where `results` tells the kind of what each function gives."""
    _, name, param, given, result, body = function
    flattening = Flattening(results, param, given)
    shape = flattening.shape_of_body(body)
    return ("block", name, given, result, flattening.block.code, registers_of(shape))


class Region:
    """A part of a body that is computed for lanes of its own.

    `lanes` is the register of the indexes of these lanes among those of the region around it.
    A name has a list of shapes, because a hidden variable is visible again later on.
    """

    def __init__(self, lanes):
        self.lanes = lanes
        self.visible = {}

    def show(self, name, shape):
        self.visible.setdefault(name, []).append(shape)

    def hide(self, name):
        self.visible[name].pop()


class Flattening:
    """The flattening of the body of one function."""

    def __init__(self, results, param, given):
        self.results = results
        self.block = BlockCode(given)
        self.regions = [Region(0)]
        self.regions[0].show(param, self.block.argument)
        # The shapes of the parts that have been computed and not been used yet.
        self.done = []

    def shape_of_body(self, body):
        waiting = [("enter", body)]
        while waiting:
            step, e = waiting.pop()
            if step == "enter":
                waiting.extend(steps_inside(e)[::-1])
            elif step == "leave":
                self.leave(e)
            else:
                self.go_between(step, e)
        return self.done.pop()

    def go_between(self, step, e):
        """Prepare what the next part of an expression needs; its parts before that one are on top of `done`."""
        match step:
            case "bind":
                self.regions[-1].show(e[1], self.done[-1])
            case "loop":
                self.begin_loop(e[1], self.done[-1])
            case "then":
                self.begin_branch(True, self.done[-1])
            case _:
                self.regions.pop()
                self.begin_branch(False, self.done[-2])

    def begin_loop(self, name, row):
        """Begin a region whose lanes are the elements of all lanes of a sequence."""
        self.regions.append(Region(self.block.emit("repeat", None, [row.vector])))
        self.regions[-1].show(name, row.inner[0])

    def begin_branch(self, taken, condition):
        """Begin a region of the lanes whose number is not 0, or is 0."""
        self.regions.append(Region(self.block.emit("where", taken, [condition.vector])))

    def leave(self, e):
        """Put the shape of an expression in the place of those of its parts."""
        if e[0] == "let":
            self.regions[-1].hide(e[1])
        elif e[0] in ("each", "if"):
            self.regions.pop()
        parts = taken_off(self.done, len(parts_of(e)))
        self.done.append(self.shape_of(e, parts))

    def shape_of(self, e, parts):
        match e[0]:
            case "num":
                return num_shape(self.block.emit("fill", e[1], [self.regions[-1].lanes]))
            case "var":
                return self.shape_of_variable(e[1])
            case "op":
                return num_shape(self.block.emit("calc", e[1], [part.vector for part in parts]))
            case "call":
                return self.block.emit_call(e[1], self.regions[-1].lanes, parts[0], self.results[e[1]])
            case form:
                rule = RULES[form]
                return rule(self.block, parts)

    def shape_of_variable(self, name):
        """Return the shape of a variable in the innermost region.

        It is brought there from the region around it in which it stands, through all in between.
        It is kept in each of them, and what a name means outside does not change until they end.
        """
        inner = []
        while not self.regions[-1 - len(inner)].visible.get(name):
            inner.append(self.regions[-1 - len(inner)])
        shape = self.regions[-1 - len(inner)].visible[name][-1]
        for region in reversed(inner):
            shape = self.block.taken(shape, region.lanes)
            region.show(name, shape)
        return shape


def steps_inside(e):
    """Return the steps of the way through one expression, in which its parts are only entered."""
    inside = [("enter", part) for part in parts_of(e)]
    for at, step in enumerate(BETWEEN.get(e[0], ())):
        inside.insert(2 * at + 1, (step, e))
    inside.append(("leave", e))
    return inside


def shape_of_let(block, parts):
    return parts[1]


def shape_of_if(block, parts):
    condition, shape, other = parts
    order = block.emit("weave", None, [condition.vector])
    return block.taken(block.joined(shape, other), order)


def shape_of_pair(block, parts):
    return pair_shape(parts[0], parts[1])


def shape_of_first(block, parts):
    return parts[0].inner[0]


def shape_of_second(block, parts):
    return parts[0].inner[1]


def shape_of_each(block, parts):
    return seq_shape(parts[0].vector, parts[1])


def shape_of_iota(block, parts):
    lengths = block.emit("range", None, [parts[0].vector])
    return seq_shape(lengths, num_shape(block.emit("count", None, [lengths])))


def shape_of_len(block, parts):
    return num_shape(parts[0].vector)


def shape_of_at(block, parts):
    row, index = parts
    place = block.emit("place", None, [row.vector, index.vector])
    return block.taken(row.inner[0], place)


def shape_of_sum(block, parts):
    return num_shape(block.emit("sums", None, [parts[0].vector, parts[0].inner[0].vector]))


def shape_of_flat(block, parts):
    rows = parts[0].inner[0]
    return seq_shape(block.emit("sums", None, [parts[0].vector, rows.vector]), rows.inner[0])


def shape_of_keep(block, parts):
    row, marks = parts
    # First of all, because the other instructions need marks that fit the sequence.
    lengths = block.emit("same", None, [row.vector, marks.vector])
    marked = block.emit("flags", None, [marks.inner[0].vector])
    kept = block.emit("where", True, [marks.inner[0].vector])
    return seq_shape(block.emit("sums", None, [lengths, marked]), block.taken(row.inner[0], kept))


def shape_of_append(block, parts):
    row, other = parts
    lengths = block.emit("calc", "+", [row.vector, other.vector])
    order = block.emit("zip", None, [row.vector, other.vector])
    return seq_shape(lengths, block.taken(block.joined(row.inner[0], other.inner[0]), order))


# The forms whose shape follows from the shapes of their parts alone.
RULES = {
    "let": shape_of_let,
    "if": shape_of_if,
    "pair": shape_of_pair,
    "first": shape_of_first,
    "second": shape_of_second,
    "each": shape_of_each,
    "iota": shape_of_iota,
    "len": shape_of_len,
    "at": shape_of_at,
    "sum": shape_of_sum,
    "flat": shape_of_flat,
    "keep": shape_of_keep,
    "append": shape_of_append,
}
