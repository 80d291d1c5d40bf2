"""Interleaving runs of several threads, and deadlocks that come of it."""

from heldcalls.errors import BadRun, Clash, NoRunCycle
from heldcalls.heldsets import are_apart
from heldcalls.holds import acquisitions, final_acquisitions, since_finals
from heldcalls.lockcycles import shortest_lock_cycle
from heldcalls.threads import play


def interleave(library, runs):
    """Returns the schedule that interleaves the runs, or raises Clash."""
    finals = [final_acquisitions(library, run) for run in runs]
    held = [lock for final in finals for lock, _ in final]
    for lock in library.locks:
        if held.count(lock) > 1:
            raise Clash((lock,))
    pairs = [
        (before, lock)
        for run, final in zip(runs, finals)
        for before, since in since_finals(library, run, final)
        for lock in since
        if lock in held
    ]
    cycle = shortest_lock_cycle(library.locks, pairs)
    if cycle:
        raise Clash(cycle)
    return schedule_of(runs, finals, pairs)


def is_run_cycle(library, runs):
    """Tells whether all of them are runs and they are a run cycle."""
    try:
        threads = [play(library, run) for run in runs]
    except BadRun:
        return False
    if len(threads) < 2:
        return False
    bases = []
    for at, thread in enumerate(threads):
        # For the first thread, this is the last one.
        wanted = threads[at - 1].wants
        stack = thread.lock_stack
        if wanted not in stack or wanted in threads[at - 1].held:
            return False
        bases.extend(stack[:stack.index(wanted) + 1])
    return len(set(bases)) == len(bases)


def force_deadlock(library, runs):
    """Returns a schedule that leads to a deadlock and the indexes of the runs of which its threads make beginnings."""
    if not is_run_cycle(library, runs):
        raise NoRunCycle()
    try:
        return interleave(library, runs), tuple(range(len(runs)))
    except Clash:
        cycle = shortest_run_cycle(library, runs)
    beginnings = [runs[origin][:many] for origin, many in cycle]
    return interleave(library, beginnings), tuple([origin for origin, _ in cycle])


def schedule_of(runs, finals, pairs):
    """Returns the schedule of point 37 for runs with these final acquisitions; pairs are those of point 36."""
    steps = []
    for thread, run in enumerate(runs):
        steps.extend(part_of(thread, run, 0, finals[thread]))
    left = list(finals)
    had = []
    while any(left):
        thread = next_thread(left, pairs, had)
        lock, begin = left[thread][0]
        left[thread] = left[thread][1:]
        steps.extend(part_of(thread, runs[thread], begin, left[thread]))
        had.append(lock)
    return tuple(steps)


def part_of(thread, run, begin, left):
    """Returns the steps of the run from begin up to the first final acquisition that is left, or to its end."""
    end = left[0][1] if left else len(run)
    return [(thread, move) for move in run[begin:end]]


def next_thread(left, pairs, had):
    """Returns the first thread that may make its next final acquisition when those of the locks had are made."""
    for thread, finals in enumerate(left):
        if finals and all([before in had for before, lock in pairs if lock == finals[0][0]]):
            return thread
    return None


class Beginning:
    """A beginning of a run, after which its thread holds the locks of the base and wants another lock.

    It has the index of the run as its origin, and its number of moves. The last lock of the base is the one that
    the thread before it in a run cycle wants.
    """

    def __init__(self, origin, many, base, wanted):
        self.origin = origin
        self.many = many
        self.base = base
        self.wanted = wanted


def shortest_run_cycle(library, runs):
    """Returns the run cycle with the fewest moves among the beginnings of the runs, pairs (origin, number of moves).

    The runs are a run cycle that cannot be interleaved. By point 39 any such cycle leaves a shorter one, so the
    shortest one of all can be interleaved.
    """
    beginnings = beginnings_of(library, runs)
    shortest = ()
    bound = sum([len(run) for run in runs])
    paths = [(beginning,) for beginning in beginnings]
    while paths:
        longer = [(*path, later) for path in paths for later in beginnings if may_follow(path, later)]
        for path in longer:
            if path[-1].wanted == path[0].base[-1] and moves_of(path) < bound:
                shortest = path
                bound = moves_of(path)
        paths = [path for path in longer if moves_of(path) < bound]
    return [(beginning.origin, beginning.many) for beginning in shortest]


def beginnings_of(library, runs):
    """Returns the beginnings of the runs that may be in a run cycle, of several alike only the shortest one."""
    found = {}
    for origin, run in enumerate(runs):
        # The thread could go on by the acquire of this lock, so the whole run is among the beginnings, too.
        wanted = play(library, run).wants
        for many, lock, stack in acquisitions((*run, ("acquire", wanted))):
            for size in range(1, len(stack) + 1):
                found.setdefault((origin, stack[:size], lock), many)
    return [Beginning(origin, many, base, lock) for (origin, base, lock), many in found.items()]


def may_follow(path, later):
    """Tells whether the beginning may come behind those of the path in a cycle that begins with its least origin."""
    if later.base[-1] != path[-1].wanted or later.origin <= path[0].origin:
        return False
    return all([later.origin != earlier.origin and are_apart(later.base, earlier.base) for earlier in path])


def moves_of(path):
    """Returns the number of moves of the beginnings of the path together."""
    return sum([beginning.many for beginning in path])
