"""Remedies: hooks that should be deferred, and routines that a hook may be allowed to call back."""

from heldcalls.tables import table_of
from heldcalls.verdicts import fatal_requests


def smallest_deferrals(library, *, reentrant=True):
    """Returns all smallest sets of hooks such that the library is safe if they are deferred."""
    immediate = [hook for hook in library.hooks if not library.is_deferred(hook)]
    choices = selections(immediate)
    for many in range(len(immediate) + 1):
        enough = tuple([
            hooks
            for hooks in choices
            if len(hooks) == many and is_safe(library.deferring(*hooks), reentrant)
        ])
        if enough:
            return enough
    return ()


def widest_callbacks(library, hook, *, reentrant=True):
    """Returns all widest sets of routines such that the library is safe if they are the callbacks of the hook."""
    allowed = [
        routines
        for routines in selections(library.routines)
        if is_safe(library.with_callbacks(hook, routines), reentrant)
    ]
    return tuple([routines for routines in allowed if not any([is_wider(other, routines) for other in allowed])])


def is_safe(library, reentrant):
    """Tells whether the verdict on the library is safe."""
    return not fatal_requests(table_of(library), reentrant)


def selections(names):
    """Returns all selections of the names, tuples in their order, in the order of the tuples of their positions."""
    # Behind the empty one come those that begin with the first name, then those that do not.
    found = [()]
    for name in names[::-1]:
        found = [()] + [(name, *later) for later in found] + found[1:]
    return found


def is_wider(first, second):
    """Tells whether the first set has all members of the second one, and more."""
    return len(first) > len(second) and all([name in first for name in second])
