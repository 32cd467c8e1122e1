"""Programs: blocks of steps, each with an end that tells where it goes on."""

from runledger.checks import can_have_blocks, is_block, is_integer
from runledger.errors import BadBlocks, BadProgram, OtherRoutine
from runledger.routines import Routine

MOST_STEPS = 4
GREATEST_OPERAND = 10 ** 9


def is_letter(value):
    """Return whether the value, of any kind, is one of the letters a to z."""
    return isinstance(value, str) and len(value) == 1 and "a" <= value <= "z"


def is_operand(value):
    """Return whether the value, of any kind, is a letter or an integer that may be named."""
    return is_letter(value) or is_integer(value) and -GREATEST_OPERAND <= value <= GREATEST_OPERAND


def is_step(value):
    """Return whether the value, of any kind, is a step."""
    if not isinstance(value, tuple) or len(value) != 4:
        return False
    name, a, sign, b = value
    return is_letter(name) and is_operand(a) and sign in ("+", "-") and is_operand(b)


def is_if(value):
    """Return whether the value, a tuple, is an end with a test, whatever the blocks are to which it leads."""
    if len(value) != 6 or value[0] != "if":
        return False
    _, a, test, b, v, w = value
    return is_operand(a) and test in ("<", "==") and is_operand(b) and v != w


def is_end(value, at, blocks):
    """Return whether the value, of any kind, is an end of the block at this place, of so many blocks."""
    if at == blocks - 1:
        return value == ("stop",)
    if not isinstance(value, tuple):
        return False
    goes = len(value) == 2 and value[0] == "go"
    if not goes and not is_if(value):
        return False
    return all([is_block(head, blocks) and head > at for head in heads_of(value)])


def is_program_block(value, at, blocks):
    """Return whether the value, of any kind, is the block at this place of a program with so many blocks."""
    if not isinstance(value, tuple) or len(value) != 2:
        return False
    steps, end = value
    if not isinstance(steps, tuple) or len(steps) > MOST_STEPS:
        return False
    return all([is_step(step) for step in steps]) and is_end(end, at, blocks)


def heads_of(end):
    """Return the list of the blocks that the end names."""
    return list(end[4:]) if end[0] == "if" else list(end[1:])


def value_of(operand, values):
    """Return the value of the operand. What has none yet is 0."""
    return values.get(operand, 0) if isinstance(operand, str) else operand


def do_steps(steps, values):
    """Do the steps, one after another, with the values."""
    for name, a, sign, b in steps:
        one, other = value_of(a, values), value_of(b, values)
        values[name] = one + other if sign == "+" else one - other


def block_behind(end, values):
    """Return the block to which the end leads with the values."""
    if end[0] == "go":
        return end[1]
    _, a, test, b, v, w = end
    one, other = value_of(a, values), value_of(b, values)
    holds = one < other if test == "<" else one == other
    return v if holds else w


class Program:
    """A program. Its ends make a routine."""

    def __init__(self, blocks):
        if not can_have_blocks(len(blocks)):
            raise BadBlocks()
        for at, block in enumerate(blocks):
            if not is_program_block(block, at, len(blocks)):
                raise BadProgram(at)
        self._code = list(blocks)
        self.routine = Routine(len(blocks), [(at, v) for at, (_, end) in enumerate(blocks) for v in heads_of(end)])

    @property
    def code(self):
        """The list of the blocks."""
        return list(self._code)

    def __eq__(self, other):
        return isinstance(other, Program) and self._code == other._code

    def execute(self, inputs):
        """Return the run that the program makes with the inputs, and the values at the end that are not 0."""
        values = {name: inputs[name] for name in inputs}
        run = [0]
        steps, end = self._code[0]
        do_steps(steps, values)
        while end[0] != "stop":
            run.append(block_behind(end, values))
            steps, end = self._code[run[-1]]
            do_steps(steps, values)
        return (tuple(run), [(name, values[name]) for name in sorted(set(values)) if values[name] != 0])

    def covered(self, cover):
        """Return the Program that does the same on the fine routine of the cover."""
        if cover.base != self.routine:
            raise OtherRoutine()
        names, blocks = cover.names, []
        for block, name in enumerate(names):
            steps, end = self._code[name]
            fine = {names[v]: v for u, v in cover.fine.outs(block)}
            heads = [fine[head] for head in heads_of(end)]
            blocks.append((steps, (*end[:len(end) - len(heads)], *heads)))
        return Program(blocks)
