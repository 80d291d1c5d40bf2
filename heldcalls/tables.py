"""Tables of requests."""

from heldcalls.contexts import contexts, held_at_places
from heldcalls.errors import NoRequest
from heldcalls.heldsets import in_order, ordered
from heldcalls.layout import lengths_before


def table_of(library):
    """Returns the table of the library."""
    lengths = {}
    for request, length, _, _ in wanting(library):
        lengths[request] = min(length, lengths.get(request, length))
    return Table(library.locks, lengths)


def wanting(library):
    """Returns where the requests of the library come up: a list of tuples (request, length, context, place)."""
    found = []
    for routine, held, length in contexts(library):
        before = lengths_before(library, routine)
        there = held_at_places(library, routine, held)
        for place, (word, name) in enumerate(library.statements(routine)):
            if word == "acquire":
                found.append(((there[place], name), length + before[place], (routine, held), place))
    return found


def proper_requests(table):
    """Returns the list of the proper requests of the table, in order (point 25)."""
    return [(held, wanted) for held, wanted in table if held and wanted not in held]


class Table:
    """The requests of one or several libraries with their lengths; it never changes."""

    def __init__(self, locks, lengths):
        self._locks = tuple(locks)
        self._lengths = {request: lengths[request] for request in in_order(self._locks, list(lengths))}

    @property
    def locks(self):
        """The locks in their order."""
        return self._locks

    def __iter__(self):
        return iter(self._lengths)

    def __len__(self):
        return len(self._lengths)

    def __contains__(self, x):
        """Tells whether x is a request of the table."""
        return x in self._lengths

    def __getitem__(self, at):
        """Returns the length of the request at."""
        if at not in self._lengths:
            raise NoRequest(at)
        return self._lengths[at]

    def self_requests(self):
        """Returns the self requests in order."""
        return tuple([(held, wanted) for held, wanted in self._lengths if wanted in held])

    def __or__(self, other):
        """Returns the two tables joined."""
        locks = (*self._locks, *[lock for lock in other.locks if lock not in self._locks])
        lengths = {request: self._lengths[request] for request in self._lengths}
        for (held, wanted), length in other._lengths.items():
            request = (ordered(locks, held), wanted)
            lengths[request] = min(length, lengths.get(request, length))
        return Table(locks, lengths)
