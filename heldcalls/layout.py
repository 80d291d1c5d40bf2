"""Places, outer blocks and lengths of the routines of a library."""

from heldcalls.errors import NoName
from heldcalls.reading import length_of_call, statement_length


def locks_at(library, routine):
    """Returns the locks that the routine holds at each of its places, a tuple of tuples."""
    held = ()
    places = [held]
    for word, name in library.statements(routine):
        if word == "acquire":
            held = (*held, name)
        elif word == "release":
            held = held[:-1]
        places.append(held)
    return tuple(places)


def outer_blocks(library, routine):
    """Returns the outer blocks of the routine, pairs (first, last) of places."""
    places = locks_at(library, routine)
    before_statements = range(len(places) - 1)
    firsts = [at for at in before_statements if not places[at] and places[at + 1]]
    lasts = [at for at in before_statements if places[at] and not places[at + 1]]
    return tuple(zip(firsts, lasts))


def call_lengths(library):
    """Returns the call lengths of all routines of the library, a dict."""
    lengths = {}
    # A routine calls only earlier ones, so their lengths are there when they are needed.
    for routine in library.routines:
        lengths[routine] = length_of_call(library.statements(routine), lengths)
    return lengths


def lengths_before(library, routine):
    """Returns the lengths before the places of the routine."""
    statements = library.statements(routine)
    lengths = call_lengths(library)
    before = [0]
    for statement in statements:
        before.append(before[-1] + statement_length(statement, lengths))
    return tuple(before)


def call_length(library, routine):
    """Returns the call length of the routine."""
    return lengths_before(library, routine)[-1] + 1


def call_length_with(library, routine, hook):
    """Returns the call length of the routine with the hook, or None if there is no such call."""
    length = call_length(library, routine)
    extras = extras_for(library, hook)
    if routine not in extras:
        return None
    return length + extras[routine]


def extras_for(library, hook):
    """Returns the extras for the hook, a dict of the routines that have one."""
    if hook not in library.hooks:
        raise NoName(hook)
    lengths = call_lengths(library)
    extras = {}
    # Each round counts in calls that are one level deeper. A circle of calls only adds to an
    # extra, so the least numbers go round none, and some round changes nothing any more.
    while True:
        deeper = next_extras(library, hook, lengths, extras)
        if deeper == extras:
            return extras
        extras = deeper


def next_extras(library, hook, lengths, extras):
    """Returns the extras of the routines if those that they call have the given extras."""
    deeper = {}
    for routine in library.routines:
        choice = least_choice(library, hook, library.statements(routine), lengths, extras)
        if choice is not None:
            deeper[routine] = choice[0]
    return deeper


def least_choice(library, hook, statements, lengths, extras):
    """Returns the least of the numbers of these statements for the hook (point 12), and how it comes about.

    This is a triple (number, index of the statement, routine that is called for it), with "" if the statement
    invokes the hook itself; it is None if there is no number. Of several the first statement is taken.
    """
    choices = [
        (number, at, callee)
        for at, statement in enumerate(statements)
        for number, callee in extra_choices(library, hook, statement, lengths, extras)
    ]
    return min(choices, default=None)


def extra_choices(library, hook, statement, lengths, extras):
    """Returns the list of the pairs (number for the hook, routine that is called for it) of this statement."""
    word, name = statement
    if statement == ("invoke", hook):
        return [(0, "")]
    if word == "call" and name in extras:
        return [(extras[name], name)]
    called = ()
    if word == "maybe":
        called = (name,)
    elif word == "invoke" and not library.is_deferred(name):
        called = library.callbacks(name)
    return [(lengths[routine] + extras[routine], routine) for routine in called if routine in extras]
