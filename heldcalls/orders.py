"""Orders in which the locks of a table can be acquired."""

from heldcalls.errors import NoLockOrder
from heldcalls.lockcycles import shortest_lock_cycle
from heldcalls.tables import proper_requests


def lock_order(table):
    """Returns the order of the locks of the table, or raises NoLockOrder."""
    pairs = [(lock, wanted) for held, wanted in proper_requests(table) for lock in held]
    cycle = shortest_lock_cycle(table.locks, pairs)
    if cycle:
        raise NoLockOrder(cycle)
    order = ()
    for _ in table.locks:
        order = (*order, next_lock(table.locks, pairs, order))
    return order


def next_lock(locks, pairs, order):
    """Returns the first lock that may come behind those of the order, or None."""
    for lock in locks:
        if lock not in order and all([before in order for before, wanted in pairs if wanted == lock]):
            return lock
    return None
