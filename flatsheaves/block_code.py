"""The code of one block while it is written."""

from flatsheaves.shapes import Shape, registers_of, shape_of_kind, vector_count


class BlockCode:
    """The instructions of a block so far, and the register that comes next.

    Lanes are taken out of shapes, and shapes are joined, without recursion. What has been taken or
    joined once is not taken or joined again, so the work follows the number of different shapes.
    """

    def __init__(self, given):
        self.code = []
        self.argument = shape_of_kind(given, 1)
        self.behind = 1 + vector_count(given)
        self.takings = {}
        self.joinings = {}

    def emit(self, name, extra, inputs):
        """Add an instruction, and return the register of its output."""
        output = self.behind
        self.behind += 1
        self.code.append((name, extra, inputs, [output]))
        return output

    def emit_call(self, name, lanes, argument, result):
        """Add a call, and return the shape of its result, which is of the kind `result`."""
        shape = shape_of_kind(result, self.behind)
        self.behind += vector_count(result)
        self.code.append(("call", name, [lanes, *registers_of(argument)], registers_of(shape)))
        return shape

    def taken(self, shape, indexes):
        """Return the shape of the lanes with these indexes."""
        waiting = [(shape, indexes, None)]
        while waiting:
            part, lanes, inside = waiting.pop()
            if inside is not None:
                self.takings[(part, lanes)] = self.taken_part(part, lanes, inside)
            elif (part, lanes) not in self.takings:
                inside = self.lanes_inside(part, lanes)
                # It comes again behind its parts, and is put together then.
                waiting.append((part, lanes, inside))
                waiting.extend([(inner, inside, None) for inner in part.inner])
        return self.takings[(shape, indexes)]

    def lanes_inside(self, shape, lanes):
        """Return the register of the indexes of the lanes that are inside of these lanes of a shape."""
        return self.emit("pick", None, [shape.vector, lanes]) if shape.form == "seq" else lanes

    def taken_part(self, shape, lanes, inside):
        """Return a shape of which everything inside has been taken."""
        inner = [self.takings[(part, inside)] for part in shape.inner]
        vector = None if shape.form == "pair" else self.emit("take", None, [shape.vector, lanes])
        return Shape(shape.form, vector, inner)

    def joined(self, shape, other):
        """Return the shape of the lanes of one shape, and behind them those of another one of its kind."""
        waiting = [(shape, other, False)]
        while waiting:
            first, second, entered = waiting.pop()
            if entered:
                self.joinings[(first, second)] = self.joined_part(first, second)
            elif (first, second) not in self.joinings:
                waiting.append((first, second, True))
                waiting.extend([(a, b, False) for a, b in zip(first.inner, second.inner)])
        return self.joinings[(shape, other)]

    def joined_part(self, shape, other):
        """Return two shapes as one, of which everything inside has been joined."""
        inner = [self.joinings[(a, b)] for a, b in zip(shape.inner, other.inner)]
        vector = None if shape.form == "pair" else self.emit("join", None, [shape.vector, other.vector])
        return Shape(shape.form, vector, inner)
