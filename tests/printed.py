"""Checks examples that are written as the document prints them."""

import ledgerproof.errors

MODEL = (
    ("home", "firm"),
    ("cash", "debt"),
    (("wage", ("sector", "firm"), (("cash", -1),), ("sector", "home"), (("cash", 1),)),),
    (),
    (),
)


def check_examples(case, text, names):
    """Runs the lines behind `>>> ` in order and compares what each expression gives."""
    lines = text.strip().split("\n")
    for at, line in enumerate(lines):
        if not line.startswith(">>> "):
            continue
        source = line[4:]
        told = lines[at + 1] if at + 1 < len(lines) else ">>> "
        with case.subTest(source):
            if told.startswith(">>> "):
                exec(source, names)
            elif told.startswith("raises "):
                check_error(case, told[7:], lambda source=source: eval(source, names))
            else:
                case.assertEqual(repr(eval(source, names)), told)


def check_error(case, told, call):
    """The call raises this error: `TooMany`, or with its attributes `BadValue(0)`."""
    expected = eval(told, vars(ledgerproof.errors).copy())
    if isinstance(expected, type):
        expected = expected()
    with case.assertRaises(type(expected)) as caught:
        call()
    case.assertIs(type(caught.exception), type(expected))
    case.assertEqual(vars(caught.exception), vars(expected))
