"""Chains: the locks that are held together by requests of which each one wants a lock of the next one."""

from heldcalls.heldsets import are_apart, in_order, ordered
from heldcalls.tables import proper_requests


def chains(table):
    """Returns all chains of the table in order, pairs (union, wanted)."""
    proper = proper_requests(table)
    found = {chain: True for chain in proper}
    fresh = proper
    while fresh:
        longer = [chain for shorter in fresh for chain in lengthened(table.locks, shorter, proper)]
        fresh = list({chain: True for chain in longer if chain not in found})
        for chain in fresh:
            found[chain] = True
    return tuple(in_order(table.locks, list(found)))


def closes(chain):
    """Tells whether the chain closes."""
    union, wanted = chain
    return wanted in union


def lengthened(locks, chain, proper):
    """Returns the list of the chains that consist of this chain and one more of the proper requests."""
    union, wanted = chain
    # If the chain closes, no held set with the wanted lock is apart from the union.
    return [
        (ordered(locks, (*union, *held)), lock)
        for held, lock in proper
        if wanted in held and are_apart(union, held)
    ]
