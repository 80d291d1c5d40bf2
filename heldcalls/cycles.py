"""Request cycles: requests of which each one wants a lock that the next one holds."""

from heldcalls.heldsets import are_apart
from heldcalls.tables import proper_requests


def request_cycles(table, *, threads):
    """Yields the request cycles of so many requests, in order."""
    # No lock is in two held sets of a cycle, so it has at most one request for each lock.
    if threads < 2 or threads > len(table.locks):
        return
    for path in paths_of(proper_requests(table), threads):
        if path[-1][1] in path[0][0]:
            yield path


def least_cycle(table):
    """Returns the least request cycle, or () if there is none."""
    for threads in range(2, len(table.locks) + 1):
        cycles = list(request_cycles(table, threads=threads))
        if cycles:
            return min(cycles, key=lambda cycle: sum([table[request] for request in cycle]))
    return ()


def paths_of(requests, many):
    """Returns the list of the tuples of so many requests, in order, that may be cycles but for their ends.

    Each request wants a lock that the next one holds, no lock is in two of the held sets, and the first request
    comes first among them in the order of the requests.
    """
    paths = [(at,) for at in range(len(requests))]
    for _ in range(1, many):
        paths = [
            (*path, at)
            for path in paths
            for at in range(path[0] + 1, len(requests))
            if may_follow(requests, path, at)
        ]
    return [tuple([requests[at] for at in path]) for path in paths]


def may_follow(requests, path, at):
    """Tells whether the request at may come behind those of the path."""
    held = requests[at][0]
    wanted = requests[path[-1]][1]
    return wanted in held and all([are_apart(requests[before][0], held) for before in path])
