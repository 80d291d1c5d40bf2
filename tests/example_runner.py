"""Runs the examples of the document: lines behind ">>> ", and what the last of them gives."""

import pathlib

from heldcalls import errors

FOLDER = pathlib.Path(__file__).parent / "examples"


def examples_of(module):
    """Returns the examples of a module, pairs (code lines, expected line)."""
    found = []
    for block in (FOLDER / f"{module}.txt").read_text().strip().split("\n\n"):
        *code, expected = block.split("\n")
        assert all(line.startswith(">>> ") for line in code), block
        assert not expected.startswith(">>> "), block
        found.append(([line[4:] for line in code], expected))
    return found


def outcome(code):
    """Runs the lines and tells what the last of them gives, in the way of the document."""
    names = {}
    for line in code[:-1]:
        exec(line, names)
    try:
        return repr(eval(code[-1], names))
    except errors.HeldError as error:
        return error


def fits(found, expected):
    """Tells whether the outcome is the expected one: an error by its class and its fields."""
    if not expected.startswith("raises "):
        return found == expected
    error = eval(expected.removeprefix("raises "), vars(errors))
    return type(found) is type(error) and vars(found) == vars(error)
