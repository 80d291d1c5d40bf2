"""Cycles of locks."""


def shortest_lock_cycle(locks, pairs):
    """Returns the shortest lock cycle for these pairs of locks, or () if there is none."""
    known = {(first, second): True for first, second in pairs}
    paths = [(lock,) for lock in locks]
    for _ in range(1, len(locks)):
        paths = [(*path, lock) for path in paths for lock in locks if lock not in path and (path[-1], lock) in known]
        # The paths stand in order, so of one cycle the path that begins with its first lock comes first.
        for path in paths:
            if (path[-1], path[0]) in known:
                return path
    return ()
