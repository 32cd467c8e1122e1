"""Programs to test with, and what they do, worked out slowly."""

from random import Random

LETTERS = "abcdefghijklmnopqrstuvwxyz"
MOST = 10 ** 9


def some_program(seed, blocks, letters="abcd"):
    """The blocks of a program: always the same one for a seed."""
    chance = Random(seed)

    def operand():
        return chance.choice([*letters, *letters, 0, 1, -1, chance.randint(-9, 9), MOST, -MOST])

    def end(at):
        heads = list(range(at + 1, min(at + 5, blocks)))
        if len(heads) > 1 and chance.random() < 0.8:
            return ("if", operand(), chance.choice(["<", "=="]), operand(), *chance.sample(heads, 2))
        return ("go", chance.choice(heads))

    code = []
    for at in range(blocks):
        steps = tuple((chance.choice(letters), operand(), chance.choice("+-"), operand())
                      for _ in range(chance.randint(0, 4)))
        code.append((steps, end(at) if at < blocks - 1 else ("stop",)))
    return code


def some_inputs(seed, letters="abcd"):
    chance = Random(seed)
    return {name: chance.choice([0, 1, -1, chance.randint(-20, 20), MOST, -MOST])
            for name in letters if chance.random() < 0.8}


def jumps_of_ends(code):
    """The jumps of the routine of the program, ascending."""
    found = set()
    for at, (_, end) in enumerate(code):
        found.update((at, v) for v in {"stop": [], "go": end[1:], "if": end[4:]}[end[0]])
    return sorted(found)


def slow_execute(code, inputs):
    """The run and the values at the end, with all 26 names at hand."""
    values = {name: 0 for name in LETTERS} | inputs
    run, at = (0,), 0
    while True:
        steps, end = code[at]
        for name, a, sign, b in steps:
            first = values[a] if a in values else a
            second = values[b] if b in values else b
            values[name] = first + {"+": second, "-": -second}[sign]
        if end == ("stop",):
            return run, [(name, values[name]) for name in LETTERS if values[name]]
        if end[0] == "go":
            at = end[1]
        else:
            _, a, test, b, yes, no = end
            first = values[a] if a in values else a
            second = values[b] if b in values else b
            at = yes if {"<": first < second, "==": first == second}[test] else no
        run = (*run, at)
