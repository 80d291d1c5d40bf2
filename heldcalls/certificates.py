"""Certificates: contexts and chains that show that no schedule leads to a deadlock."""

from heldcalls.chains import closes, lengthened
from heldcalls.contexts import held_at_places


def gaps(library, contexts, chains, *, reentrant=True):
    """Yields the gaps of the certificate in order, tuples of three (point 40)."""
    known = {("context", routine, held): True for routine, held in contexts}
    for union, wanted in chains:
        known["chain", union, wanted] = True
    rows = [("context", entry, ()) for entry in library.entries]
    for context in contexts:
        rows.extend(needs_of_context(library, context, reentrant))
    # These rows are there for proper requests only, whether their chains are known or not.
    proper = list({(held, lock): True for word, held, lock in rows if word == "chain"})
    for chain in chains:
        rows.extend(needs_of_chain(library, chain, proper))
    # Nothing is yielded before this, so what becomes of the two collections meanwhile has no effect.
    for row in rows:
        if row not in known:
            known[row] = True
            yield row


def needs_of_context(library, context, reentrant):
    """Returns the contexts and chains that a certificate with this context needs, and its self requests, as gaps."""
    routine, held = context
    rows = []
    for (word, name), there in zip(library.statements(routine), held_at_places(library, routine, held)):
        if word == "call" or word == "maybe":
            rows.append(("context", name, there))
        elif word == "invoke":
            begun_with = () if library.is_deferred(name) else there
            rows.extend([("context", callee, begun_with) for callee in library.callbacks(name)])
        elif word == "acquire" and name not in there and there:
            rows.append(("chain", there, name))
        elif word == "acquire" and name in there and not reentrant:
            rows.append(("self", there, name))
    return rows


def needs_of_chain(library, chain, proper):
    """Returns the chains that a certificate with this chain needs, or that it closes, as gaps."""
    if closes(chain):
        return [("cycle", *chain)]
    return [("chain", *longer) for longer in lengthened(library.locks, chain, proper)]
