"""Verdicts: whether threads of a library can deadlock."""

from heldcalls.chains import chains
from heldcalls.contexts import contexts
from heldcalls.cycles import least_cycle
from heldcalls.interleaving import interleave
from heldcalls.runs import run_to_request
from heldcalls.tables import table_of
from heldcalls.threads import Thread


class Verdict:
    """What is found out about a library, for one kind of machines."""

    def __init__(self, reentrant):
        self.reentrant = reentrant

    def lines(self):
        """Returns the list of the lines of the verdict."""
        may = "may" if self.reentrant else "may not"
        return [f"a lock {may} be acquired again by its holder"]


class Unsafe(Verdict):
    """A deadlock can come: the requests of its threads, and a schedule that leads to it."""

    def __init__(self, reentrant, requests, total, schedule, called):
        super().__init__(reentrant)
        self.requests = requests
        self.total = total
        self.threads = len(requests)
        self.schedule = schedule
        self._called = called

    def __bool__(self):
        return False

    def called_back(self):
        """Returns a pair (hook, routines that its bodies call back in the schedule) for each hook."""
        return self._called

    def lines(self):
        """Returns the list of the lines of the verdict."""
        lines = super().lines()
        lines.append(f"a deadlock of {self.threads} can come after {self.total} statements")
        for thread, (held, wanted) in enumerate(self.requests):
            names = " ".join(held)
            lines.append(f"thread {thread} holds {names} and wants {wanted}")
        return lines


class Safe(Verdict):
    """No deadlock can come: the contexts and chains of a certificate that shows it."""

    def __init__(self, reentrant, all_contexts, all_chains):
        super().__init__(reentrant)
        self.contexts = all_contexts
        self.chains = all_chains

    def __bool__(self):
        return True

    def lines(self):
        """Returns the list of the lines of the verdict."""
        lines = super().lines()
        lines.append(f"no deadlock can come: {len(self.contexts)} contexts, {len(self.chains)} chains")
        return lines


def analyze(library, *, reentrant=True):
    """Returns the verdict on the library, an Unsafe or a Safe."""
    table = table_of(library)
    requests = fatal_requests(table, reentrant)
    if not requests:
        pairs = tuple([(routine, held) for routine, held, _ in contexts(library)])
        return Safe(reentrant, pairs, chains(table))
    total = sum([table[request] for request in requests])
    runs = [run_to_request(library, request) for request in requests]
    return Unsafe(reentrant, requests, total, interleave(library, runs), callbacks_in(library, runs))


def fatal_requests(table, reentrant):
    """Returns the requests of the deadlock that is told (point 42), or () if there can be none."""
    alone = table.self_requests()
    if alone and not reentrant:
        return (min(alone, key=lambda request: table[request]),)
    return least_cycle(table)


def callbacks_in(library, runs):
    """Returns a pair (hook, routines that bodies of the hook call back in the runs) for each hook."""
    made = {}
    for run in runs:
        thread = Thread(library, run[0][1])
        for word, name in run[1:]:
            if word == "callback":
                made[thread.frames[-1][0], name] = True
            thread.step((word, name))
    return tuple([
        (hook, tuple([routine for routine in library.routines if (hook, routine) in made]))
        for hook in library.hooks
    ])
