"""Runs examples that are written as in the document: a line behind >>>, and what it returns or raises."""

import importlib

from pinnedgaps import errors
from pinnedgaps.bags.lots import Lots
from pinnedgaps.twostate.fields import Field

OBJECTS = """
>>> PAIRS = Lots.all_of(4, 2)
>>> THREE = Lots({(0, 1, 2): 1, (0, 1, 3): 1, (0, 2, 3): 1})
>>> RING = Field.free(4, ((0, 1), (0, 3), (1, 2), (2, 3)), 1)
>>> MIXED = Field(((1, 2), (1, 1), (2, 1)), {(0, 1): ((2, 1), (1, 3)), (0, 2): ((1, 1), (2, 1)), (1, 2): ((1, 2), (3, 1))})
"""


def run_examples(case, module_names, text):
    """Fails the test case for each example that returns or raises something else than what is written."""
    names = {"Lots": Lots, "Field": Field}
    for module_name in module_names:
        names.update(vars(importlib.import_module(module_name)))
    for code, wanted in examples_of(OBJECTS + text):
        with case.subTest(code):
            case.assertEqual(outcome(code, names), wanted)


def examples_of(text):
    """The pairs of a line of code and of the text of its outcome, empty for an assignment."""
    for line in text.strip().split(">>> ")[1:]:
        code, _, wanted = line.partition("\n")
        yield code, wanted.strip()


def outcome(code, names):
    try:
        compiled = compile(code, "example", "eval")
    except SyntaxError:
        exec(code, names)
        return ""
    try:
        return repr(eval(compiled, names))
    except (errors.GapError, IndexError, KeyError, RuntimeError, OverflowError, ArithmeticError) as error:
        kept = "".join(f"({value!r})" for value in vars(error).values())
        return f"raises {type(error).__name__}{kept}"
