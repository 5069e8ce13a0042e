"""The body of a function as code for a stack of values.

So no evaluation descends by recursion, and an expression can be nested to any depth.

An instruction is a pair of a word and of what the word needs:

- `num`, n: put the number n on the stack;
- `var`, slot: put the variable in this slot on the stack;
- `op`, sign: put the result of the operation in the place of the two numbers on top;
- `call`, name: put the result of the function in the place of the argument on top;
- `bind`, None: take the top off the stack, into the next slot;
- `unbind`, None: give the last slot up;
- `branch`, index: take a number off the stack, and go to the index if it is 0;
- `jump`, index: go to the index;
- `joined`, slots: behind the branches of an `if`, with the slots of the free variables of each;
- `loop`, (slots, index): begin an `each`, with the slots of the free variables of its body other
  than its own variable, and with the index behind it;
- `again`, index: behind the body of an `each`, which begins at the index;
- `end`, None: return to the caller;
- any other form, number of its parts: put its value in the place of the values of its parts.
"""

from flatsheaves.kinds import parts_of


def code_of(param, body):
    """Return the list of the instructions of a function with this parameter and this body."""
    return Translation(param).code_of_body(body)


class Translation:
    """The translation of the body of one function.

    The slot of a variable is the number of the variables around it, hidden ones included. So a
    variable is free in a region of the code if it is used there, and if its slot is one of those
    that were there before.
    """

    def __init__(self, param):
        self.code = []
        # A name has a list of slots, because a hidden variable is visible again later on.
        self.slots = {param: [0]}
        self.depth = 1
        # The slots that are used in each region that has not ended, inner regions last.
        self.regions = [{}]
        # The steps to come, the next one last.
        self.waiting = []
        # The indexes of instructions that are not complete, with slots to be remembered.
        self.incomplete = []

    def code_of_body(self, body):
        self.waiting.append(("enter", body))
        while self.waiting:
            step, e = self.waiting.pop()
            self.take(step, e)
        self.emit("end", None)
        return self.code

    def take(self, step, e):
        match step:
            case "enter":
                self.enter(e)
            case "bind":
                self.bind_let(e[1])
            case "unbind":
                self.unbind_let(e[1])
            case "branch":
                self.begin_branches()
            case "otherwise":
                self.change_branches()
            case "joined":
                self.join_branches()
            case "loop":
                self.begin_loop(e[1])
            case "again":
                self.end_loop(e[1])
            case _:
                self.emit_form(e)

    def enter(self, e):
        match e[0]:
            case "num":
                self.emit("num", e[1])
            case "var":
                self.emit_variable(e[1])
            case "let":
                self.go_on([("enter", e[2]), ("bind", e), ("enter", e[3]), ("unbind", e)])
            case "if":
                self.go_on([("enter", e[1]), ("branch", e), ("enter", e[2]), ("otherwise", e),
                            ("enter", e[3]), ("joined", e)])
            case "each":
                self.go_on([("enter", e[2]), ("loop", e), ("enter", e[3]), ("again", e)])
            case _:
                self.go_on([*[("enter", part) for part in parts_of(e)], ("form", e)])

    def go_on(self, steps):
        """Take these steps before all those that wait already."""
        self.waiting.extend(steps[::-1])

    def emit(self, word, extra):
        self.code.append((word, extra))

    def emit_variable(self, name):
        slot = self.slots[name][-1]
        self.regions[-1][slot] = True
        self.emit("var", slot)

    def emit_form(self, e):
        if e[0] in ("op", "call"):
            self.emit(e[0], e[1])
        else:
            self.emit(e[0], len(e) - 1)

    def show(self, name):
        """Give a variable the next slot."""
        self.slots.setdefault(name, []).append(self.depth)
        self.depth += 1

    def hide(self, name):
        """Take the slot of a variable back, which is the last one."""
        self.slots[name].pop()
        self.depth -= 1

    def begin_region(self):
        self.regions.append({})

    def end_region(self):
        """Return the slots of the variables that are free in the region that ends here."""
        used = self.regions.pop()
        free = [slot for slot in used if slot < self.depth]
        for slot in free:
            self.regions[-1][slot] = True
        return free

    def bind_let(self, name):
        self.emit("bind", None)
        self.show(name)

    def unbind_let(self, name):
        self.hide(name)
        self.emit("unbind", None)

    def begin_branches(self):
        self.incomplete.append((len(self.code), []))
        self.emit("branch", None)
        self.begin_region()

    def change_branches(self):
        """End the branch for numbers that are not 0, and begin that for 0."""
        branch, _ = self.incomplete.pop()
        self.incomplete.append((len(self.code), self.end_region()))
        self.emit("jump", None)
        self.code[branch] = ("branch", len(self.code))
        self.begin_region()

    def join_branches(self):
        jump, slots = self.incomplete.pop()
        self.code[jump] = ("jump", len(self.code))
        # A variable that is free in both branches stands here twice, as it counts in each.
        self.emit("joined", slots + self.end_region())

    def begin_loop(self, name):
        self.incomplete.append((len(self.code), []))
        self.emit("loop", None)
        self.begin_region()
        self.show(name)

    def end_loop(self, name):
        loop, _ = self.incomplete.pop()
        # Hidden first, so that the variable of the loop is not among the free ones.
        self.hide(name)
        slots = self.end_region()
        self.emit("again", loop + 1)
        self.code[loop] = ("loop", (slots, len(self.code)))
