"""The plain meaning of programs: one value after the other, with a count of the work."""

from flatsheaves.errors import TrapError
from flatsheaves.forms import value_of_form, work_of_form
from flatsheaves.kinds import taken_off
from flatsheaves.numbers import calculate
from flatsheaves.sized import sequence_of, size_of, sized, sizes_of, without_size
from flatsheaves.stack_code import code_of

CALL_LIMIT = 40

# The words of the code that stand beside the word of an expression, and are not counted again.
UNCOUNTED = ("unbind", "branch", "jump", "again", "end")


def size(value):
    """Return the size of a value."""
    total = 0
    waiting = [value]
    while waiting:
        part = waiting.pop()
        if isinstance(part, int):
            total += 1
        elif isinstance(part, tuple):
            waiting.extend(part)
        else:
            total += 1
            waiting.extend(part)
    return total


def evaluate(program, name, value):
    """Return the pair of the result of a function for a value, and the work, or raise TrapError."""
    evaluation = Evaluation(program)
    result = evaluation.result_of(name, sized(value))
    return without_size(result), evaluation.work


class Frame:
    """A call that has not ended: where it is in its code, and its variables by their slots."""

    def __init__(self, code, argument):
        self.code = code
        self.at = 0
        self.variables = [argument]

    def sizes(self, slots):
        """Return the sum of the sizes of the variables in these slots."""
        return sizes_of([self.variables[slot] for slot in slots])


class Loop:
    """An `each` that has not ended: its sequence, and the results for what it has gone through."""

    def __init__(self, row):
        self.row = row
        self.results = []


class Evaluation:
    """The evaluation of a function of a program: the calls, the loops and the values under way."""

    def __init__(self, program):
        self.functions = {name: (param, body) for _, name, param, _, _, body in program}
        self.codes = {}
        self.work = 0
        self.stack = []
        self.loops = []
        self.frames = []

    def result_of(self, name, argument):
        self.begin_call(name, argument)
        while self.frames:
            frame = self.frames[-1]
            word, extra = frame.code[frame.at]
            frame.at += 1
            if word not in UNCOUNTED:
                self.work += 1
            if word in ACTIONS:
                action = ACTIONS[word]
                action(self, extra)
            else:
                self.apply(word, extra)
        return self.stack.pop()

    def code_of_function(self, name):
        """Return the code of a function, which is translated when it is called first."""
        if name not in self.codes:
            param, body = self.functions[name]
            self.codes[name] = code_of(param, body)
        return self.codes[name]

    def begin_call(self, name, argument):
        if len(self.frames) == CALL_LIMIT:
            raise TrapError("too many calls inside of each other")
        self.frames.append(Frame(self.code_of_function(name), argument))

    def apply(self, form, many):
        """Put the value of a form in the place of the values of its parts."""
        parts = taken_off(self.stack, many)
        self.stack.append(value_of_form(form, parts))
        self.work += work_of_form(form, parts)


def put_number(evaluation, number):
    evaluation.stack.append(number)


def put_variable(evaluation, slot):
    evaluation.stack.append(evaluation.frames[-1].variables[slot])


def operate(evaluation, sign):
    second = evaluation.stack.pop()
    first = evaluation.stack.pop()
    evaluation.stack.append(calculate(sign, first, second))


def call(evaluation, name):
    evaluation.begin_call(name, evaluation.stack.pop())


def end(evaluation, _):
    evaluation.frames.pop()


def bind(evaluation, _):
    evaluation.frames[-1].variables.append(evaluation.stack.pop())


def unbind(evaluation, _):
    evaluation.frames[-1].variables.pop()


def branch(evaluation, index):
    if evaluation.stack.pop() == 0:
        jump(evaluation, index)


def jump(evaluation, index):
    frame = evaluation.frames[-1]
    frame.at = index


def joined(evaluation, slots):
    evaluation.work += evaluation.frames[-1].sizes(slots) + size_of(evaluation.stack[-1])


def begin_loop(evaluation, extra):
    slots, behind = extra
    frame = evaluation.frames[-1]
    row = evaluation.stack.pop()
    evaluation.work += row.size + (1 + len(row.inner)) * (1 + frame.sizes(slots))
    if row.inner:
        evaluation.loops.append(Loop(row.inner))
        frame.variables.append(row.inner[0])
    else:
        evaluation.stack.append(sequence_of([]))
        frame.at = behind


def loop_again(evaluation, start):
    """Keep a result of the innermost loop, and go to its next element, or behind it."""
    frame = evaluation.frames[-1]
    loop = evaluation.loops[-1]
    loop.results.append(evaluation.stack.pop())
    done = len(loop.results)
    if done < len(loop.row):
        frame.variables[-1] = loop.row[done]
        frame.at = start
    else:
        evaluation.loops.pop()
        frame.variables.pop()
        evaluation.stack.append(sequence_of(loop.results))


# What each word of the code does, except for the forms that `apply` treats.
ACTIONS = {
    "num": put_number,
    "var": put_variable,
    "op": operate,
    "call": call,
    "end": end,
    "bind": bind,
    "unbind": unbind,
    "branch": branch,
    "jump": jump,
    "joined": joined,
    "loop": begin_loop,
    "again": loop_again,
}
