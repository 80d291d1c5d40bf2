"""How the locks that a thread holds after a run came to be held."""

from heldcalls.errors import NoName
from heldcalls.heldsets import ordered
from heldcalls.threads import play


def final_acquisitions(library, run):
    """Returns the pairs (lock, index) of the final acquisitions of the lock stack after the run."""
    stack = play(library, run).lock_stack
    last = {lock: at for at, lock, _ in acquisitions(run)}
    return tuple([(lock, last[lock]) for lock in stack])


def acquired_since(library, run):
    """Returns the pairs (lock, locks that are acquired since) of the lock stack after the run."""
    return since_finals(library, run, final_acquisitions(library, run))


def since_finals(library, run, finals):
    """Returns what acquired_since does, for a run of which the final acquisitions are known."""
    made = acquisitions(run)
    return tuple([
        (lock, ordered(library.locks, {other: True for at, other, _ in made if at > final}))
        for lock, final in finals
    ])


def lock_base(library, run, lock):
    """Returns the lock stack after the run from its beginning up to the lock."""
    stack = play(library, run).lock_stack
    if lock not in stack:
        raise NoName(lock)
    return stack[:stack.index(lock) + 1]


def acquisitions(run):
    """Returns the list of the acquisitions of a run, tuples (index, lock, lock stack before)."""
    found = []
    stack = ()
    depths = {}
    for at, (word, lock) in enumerate(run):
        if word == "acquire":
            if lock not in stack:
                found.append((at, lock, stack))
                stack = (*stack, lock)
            depths[lock] = depths.get(lock, 0) + 1
        elif word == "release":
            depths[lock] = depths[lock] - 1
            # Acquires and releases are nested, so a lock that is let go is the last one of the stack.
            if depths[lock] == 0:
                stack = stack[:-1]
    return found
