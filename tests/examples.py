"""Runs the examples of the interface as they stand there."""

import ast


def outcome(rows, names):
    """What the last row gives, as the interface writes it."""
    try:
        for row in rows[:-1]:
            exec(row, names)
        try:
            code = compile(rows[-1], "example", "eval")
        except SyntaxError:
            exec(rows[-1], names)
            return ""
        return repr(eval(code, names))
    except ValueError as error:
        fields = ", ".join(f"{name}={value!r}" for name, value in vars(error).items())
        return f"raises {error.__class__.__name__}({fields})"


def check_example(case, text):
    """Fail the test case unless the rows behind >>> give what stands below them."""
    lines = text.strip("\n").split("\n")
    rows = [line[4:] for line in lines if line.startswith(">>> ")]
    wanted = [line for line in lines if not line.startswith(">>> ")]
    case.assertEqual(len(wanted), 1)
    found = outcome(rows, {})
    if wanted[0].startswith("raises "):
        case.assertEqual(found, wanted[0])
    else:
        case.assertEqual(ast.literal_eval(found), ast.literal_eval(wanted[0]))
        case.assertEqual(found, repr(ast.literal_eval(wanted[0])))
