"""Random ways through a library, run cycles found among them, and replays of schedules."""

import itertools

from heldcalls.errors import BadRun
from heldcalls.library import Library
from heldcalls.machine import Machine
from heldcalls.threads import Thread, play
from tests.moves import COUNTED
from tests.support import dense_text, full_text, random_text


def random_run(library, chance, most):
    """Returns a run of at most so many moves behind the start."""
    thread = Thread(library, chance.choice(library.entries))
    for _ in range(most):
        moves = thread.moves()
        if not moves:
            break
        thread.step(moves[-1] if chance.random() < 0.5 else chance.choice(moves))
    return thread.run


def random_machine(library, chance, *, reentrant, most=60, threads=5):
    """Returns a machine after random steps; it has a thread at least."""
    machine = Machine(library, reentrant=reentrant)
    for _ in range(chance.randint(1, most)):
        free = [thread for thread in range(len(machine))
                if machine.moves(thread) and machine.waits_for(thread) is None]
        if not free or len(machine) < threads and chance.random() < 0.1:
            machine.start(chance.choice(library.entries))
        else:
            thread = chance.choice(free)
            moves = machine.moves(thread)
            machine.step(thread, moves[-1] if chance.random() < 0.6 else chance.choice(moves))
    return machine


def replayed(library, schedule, *, reentrant=True):
    """Makes the steps of a schedule on a new machine, one by one, and returns it."""
    assert type(schedule) is tuple and all(type(step) is tuple for step in schedule)
    machine = Machine(library, reentrant=reentrant)
    for thread, move in schedule:
        machine.step(thread, move)
    assert machine.steps == schedule
    return machine


def moves_of_thread(schedule, thread):
    return tuple(move for number, move in schedule if number == thread)


def statements(run):
    """The number of statements that the moves execute."""
    return sum(word in COUNTED for word, _ in run)


def ring_of_waits(machine):
    """Tells whether each thread waits for the next one and the last one for the first one."""
    many = len(machine)
    return [machine.waits_for(thread) for thread in range(many)] == [(thread + 1) % many for thread in range(many)]


def places_to_wait(library, run):
    """Returns the beginnings of the run after which the thread holds locks and wants another one.

    They are triples (number of moves, lock stack, wanted lock).
    """
    thread = Thread(library, run[0][1])
    found = []
    for many, move in enumerate(run, start=1):
        if many > 1:
            thread.step(move)
        if thread.held and thread.wants not in (None, *thread.held):
            found.append((many, thread.lock_stack, thread.wants))
    return found


def is_run_cycle_by_words(library, runs):
    """Tells by the words of point 38 whether the runs are a run cycle."""
    try:
        threads = [play(library, run) for run in runs]
    except BadRun:
        return False
    if len(runs) < 2:
        return False
    bases = []
    for before, thread in zip(threads[-1:] + threads[:-1], threads):
        if before.wants is None or before.wants in before.held or before.wants not in thread.held:
            return False
        bases.append(set(thread.held[:thread.held.index(before.wants) + 1]))
    return all(one.isdisjoint(two) for one, two in itertools.combinations(bases, 2))


def random_run_cycles(library, chance, *, tries=30, walks=8):
    """Yields run cycles, tuples of runs, that consist of beginnings of random runs."""
    runs = [random_run(library, chance, chance.choice([10, 30, 100])) for _ in range(walks)]
    places = [(at, *place) for at, run in enumerate(runs) for place in places_to_wait(library, run)]
    for _ in range(tries if places else 0):
        chance.shuffle(places)
        path = places[:1]
        while len(path) < 5:
            later = [place for place in places[:60] if path[-1][3] in place[2] and place[0] not in
                     [earlier[0] for earlier in path]]
            if not later:
                break
            path.append(chance.choice(later))
            cycle = tuple(runs[at][:many] for at, many, _, _ in path)
            if is_run_cycle_by_words(library, cycle):
                yield cycle
                break


def some_library(seed):
    """Returns a library with entries: a small one, any one, or one at all its bounds."""
    while True:
        library = Library.read([dense_text, random_text, full_text][seed % 3](seed))
        if library.entries:
            return library
        seed += 3
