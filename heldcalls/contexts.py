"""Contexts: which routines a thread begins with which held sets, and after how many statements at least."""

from heldcalls.errors import NoName
from heldcalls.heldsets import ordered, positions
from heldcalls.layout import call_lengths, extras_for, least_choice, lengths_before, locks_at, outer_blocks


def contexts(library):
    """Returns the contexts in order, triples (routine, held set, length)."""
    rows = [(routine, held, arrival[0]) for (routine, held), arrival in arrivals(library).items()]
    return tuple(sorted(rows, key=lambda row: (library.routines.index(row[0]), positions(library.locks, row[1]))))


def held_when_invoked(library, hook):
    """Returns the held sets with which a thread can come to an invoke of the hook, in order."""
    if hook not in library.hooks:
        raise NoName(hook)
    found = {}
    for routine, held in arrivals(library):
        for statement, there in zip(library.statements(routine), held_at_places(library, routine, held)):
            if statement == ("invoke", hook):
                found[there] = True
    return tuple(sorted(found, key=lambda held: positions(library.locks, held)))


def held_at_places(library, routine, held):
    """Returns the list of the held sets at the places of a routine that a thread began with the held set."""
    return [ordered(library.locks, (*held, *locks)) for locks in locks_at(library, routine)]


def arrivals(library):
    """Returns how a thread comes to each context in the least number of statements (point 21).

    This is a dict of tuples (length, context before, place, hook): from the context before, the thread goes on to
    the place of its routine and calls, or invokes and is called back, from there. If a deferred hook is told and
    not "", the place is within an outer block, the thread invokes the hook from there, and the body of the hook
    calls back behind the block. The context before is None if the context is a start.
    """
    exits = {routine: exits_of(library, routine) for routine in library.routines}
    free_exits = {routine: free_exits_of(library, routine) for routine in library.routines}
    waiting = {(entry, ()): (0, None, 0, "") for entry in library.entries}
    settled = {}
    # A way on only adds to the length, so the shortest arrival that waits cannot become shorter.
    while waiting:
        context = min(waiting, key=lambda known: waiting[known][0])
        settled[context] = waiting.pop(context)
        routine, held = context
        there = held_at_places(library, routine, held)
        ways = exits[routine] if held else exits[routine] + free_exits[routine]
        for cost, callee, place, hook in ways:
            found = (callee, () if hook else there[place])
            length = settled[context][0] + cost
            if found not in settled and (found not in waiting or length < waiting[found][0]):
                waiting[found] = (length, context, place, hook)
    return settled


def exits_of(library, routine):
    """Returns the ways from the routine into others that are there whatever is held when the routine begins.

    These are tuples (cost, routine that begins, place, hook), where the cost is the number of statements from the
    beginning of the routine on, and place and hook are those of an arrival.
    """
    before = lengths_before(library, routine)
    exits = []
    for place, (word, name) in enumerate(library.statements(routine)):
        callees = ()
        if word == "call" or word == "maybe":
            callees = (name,)
        elif word == "invoke" and not library.is_deferred(name):
            callees = library.callbacks(name)
        exits.extend([(before[place] + 1, callee, place, "") for callee in callees])
    return exits


def free_exits_of(library, routine):
    """Returns the ways from the routine into others that are there only if nothing is held when it begins."""
    before = lengths_before(library, routine)
    locks = locks_at(library, routine)
    exits = []
    for place, (word, name) in enumerate(library.statements(routine)):
        if word == "invoke" and library.is_deferred(name) and not locks[place]:
            exits.extend([(before[place] + 1, callee, place, "") for callee in library.callbacks(name)])
    for hook in library.hooks:
        if library.is_deferred(hook):
            exits.extend(block_exits_of(library, routine, hook))
    return exits


def block_exits_of(library, routine, hook):
    """Returns the ways from the routine over invokes of the deferred hook within the outer blocks."""
    before = lengths_before(library, routine)
    lengths = call_lengths(library)
    extras = extras_for(library, hook)
    exits = []
    for first, last in outer_blocks(library, routine):
        inner = library.statements(routine)[first + 1:last]
        choice = least_choice(library, hook, inner, lengths, extras)
        if choice is not None:
            cost = before[last] + 1 + choice[0]
            place = first + 1 + choice[1]
            exits.extend([(cost, callee, place, hook) for callee in library.callbacks(hook)])
    return exits
