"""Reports: the requests of a library in columns, and its verdict."""

from heldcalls.tables import table_of
from heldcalls.verdicts import analyze


def report(library, *, reentrant=True):
    """Returns the list of the lines of the report on the library."""
    table = table_of(library)
    lines = [row("held", "wants", "length")]
    for held, wanted in table:
        lines.append(row(" ".join(held) if held else "-", wanted, table[held, wanted]))
    return lines + analyze(library, reentrant=reentrant).lines()


def row(held, wanted, length):
    """Returns a line of three columns."""
    return f"{held:<44}{wanted:<9}{length:>6}"
