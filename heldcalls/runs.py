"""Runs of least length that lead to contexts and requests."""

from heldcalls.contexts import arrivals
from heldcalls.errors import NoContext, NoRequest
from heldcalls.layout import call_lengths, extras_for, least_choice
from heldcalls.tables import wanting
from heldcalls.threads import BODY, Thread


def run_to_context(library, routine, held):
    """Returns a run of least length whose last move begins the routine with the held set."""
    known = arrivals(library)
    if (routine, held) not in known:
        raise NoContext((routine, held))
    return thread_in(library, known, (routine, held)).run


def run_to_request(library, request):
    """Returns a run of least length after which the thread makes the request."""
    ways = [(length, context, place) for found, length, context, place in wanting(library) if found == request]
    if not ways:
        raise NoRequest(request)
    _, context, place = min(ways)
    thread = thread_in(library, arrivals(library), context)
    go_to(thread, place)
    return thread.run


def thread_in(library, known, context):
    """Returns a thread that has just come to the context, as the arrivals tell."""
    trail = [context]
    while known[trail[-1]][1] is not None:
        trail.append(known[trail[-1]][1])
    thread = Thread(library, trail.pop()[0])
    while trail:
        routine = trail[-1][0]
        _, _, place, hook = known[trail.pop()]
        if hook:
            go_down_to(library, thread, place, hook)
            go_to_body(thread, hook)
            thread.step(("callback", routine))
        else:
            go_to(thread, place)
            enter(library, thread, routine)
    return thread


def go_on(thread):
    """Makes the default move."""
    thread.step(thread.moves()[-1])


def go_to(thread, place):
    """Lets the routine that is topmost now go on to the place, by default moves."""
    height = len(thread.frames)
    while len(thread.frames) > height or thread.frames[-1][1] != place:
        go_on(thread)


def go_to_body(thread, hook):
    """Goes on until a body of the hook is topmost, by default moves."""
    while thread.frames[-1] != (hook, BODY):
        go_on(thread)


def enter(library, thread, routine):
    """Begins the routine by the statement at which the thread stands, or by the body of the hook that it invokes."""
    name, place = thread.frames[-1]
    word, other = library.statements(name)[place]
    if word == "invoke":
        thread.step(("invoke", other))
        thread.step(("callback", routine))
    else:
        thread.step(("call", routine))


def go_down_to(library, thread, place, hook):
    """Goes to the place of the topmost routine and from there to an invoke of the hook, by as few moves as possible.

    The statement at the place is this invoke, or it begins routines by which the hook is invoked.
    """
    lengths = call_lengths(library)
    extras = extras_for(library, hook)
    go_to(thread, place)
    while thread.moves() != (("invoke", hook),):
        name, at = thread.frames[-1]
        _, _, routine = least_choice(library, hook, library.statements(name)[at:at + 1], lengths, extras)
        enter(library, thread, routine)
        _, deeper, _ = least_choice(library, hook, library.statements(routine), lengths, extras)
        go_to(thread, deeper)
