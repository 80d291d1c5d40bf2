"""Held sets: tuples of locks in a fixed order, each lock once."""


def ordered(locks, chosen):
    """Returns the held set of the chosen locks; locks is the tuple of all locks in their order."""
    return tuple([lock for lock in locks if lock in chosen])


def positions(locks, held):
    """Returns the tuple of the positions of the locks of a held set."""
    return tuple([locks.index(lock) for lock in held])


def are_apart(first, second):
    """Tells whether no lock is in both held sets."""
    return not any([lock in second for lock in first])


def in_order(locks, pairs):
    """Returns the list of the pairs (held set, lock) in the order of requests."""
    return sorted(pairs, key=lambda pair: (positions(locks, pair[0]), locks.index(pair[1])))
