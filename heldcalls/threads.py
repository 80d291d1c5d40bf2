"""One thread of a library, and its runs."""

from heldcalls.errors import BadRun, NoName, WrongMove
from heldcalls.heldsets import ordered

# The place in the frame of a body of a hook.
BODY = -1

# The words of the moves that carry out a statement of the topmost routine.
ADVANCING = ("acquire", "release", "call", "skip", "invoke")

# The words of the moves that count for the length.
COUNTED = ("acquire", "release", "call", "skip", "invoke", "return")


class Thread:
    """A thread that runs alone: every acquire succeeds."""

    def __init__(self, library, entry):
        if entry not in library.entries:
            raise NoName(entry)
        self._library = library
        self._frames = [(entry, 0)]
        self._held = []
        self._pending = []
        self._length = 0
        self._run = [("start", entry)]

    @property
    def frames(self):
        """The frames, the lowest one first: pairs (routine, place) and (hook, -1)."""
        return tuple(self._frames)

    @property
    def held(self):
        """The locks that have been acquired and not released, with repeats."""
        return tuple(self._held)

    @property
    def held_set(self):
        """The held locks in the library's order, each once."""
        return ordered(self._library.locks, self._held)

    @property
    def lock_stack(self):
        """The held locks in the order in which the thread came to hold them, each once."""
        stack = []
        for lock in self._held:
            if lock not in stack:
                stack.append(lock)
        return tuple(stack)

    @property
    def pending(self):
        """The deferred hooks whose bodies have not begun yet, in the order of their invocations."""
        return tuple(self._pending)

    @property
    def length(self):
        """The number of statements that the thread has executed."""
        return self._length

    @property
    def wants(self):
        """The lock that the thread wants, or None."""
        # An acquire is always the only next move.
        for word, name in self.moves():
            if word == "acquire":
                return name
        return None

    @property
    def ended(self):
        """Tells whether the thread has no frame any more."""
        return not self._frames

    @property
    def run(self):
        """All moves so far, the start first."""
        return tuple(self._run)

    def moves(self):
        """Returns the moves that the thread can make next; the last one is the default move."""
        if not self._frames:
            return ()
        name, place = self._frames[-1]
        if place == BODY:
            callbacks = [("callback", routine) for routine in self._library.callbacks(name)]
            return (*callbacks, ("done", name))
        statements = self._library.statements(name)
        if place == len(statements):
            return (("return", name),)
        word, other = statements[place]
        if word == "maybe":
            return (("call", other), ("skip", other))
        return ((word, other),)

    def step(self, move):
        """Makes the move, or raises WrongMove if it is not one of the next moves."""
        if move not in self.moves():
            raise WrongMove(move)
        word, name = move
        self._run.append(move)
        if word in COUNTED:
            self._length += 1
        if word in ADVANCING:
            routine, place = self._frames[-1]
            self._frames[-1] = (routine, place + 1)
        if word == "acquire":
            self._held.append(name)
        elif word == "release":
            self._release()
        elif word == "invoke":
            self._invoke(name)
        elif word == "call" or word == "callback":
            self._frames.append((name, 0))
        elif word == "return" or word == "done":
            self._frames.pop()

    def duplicate(self):
        """Returns an independent thread in the same state."""
        twin = Thread(self._library, self._run[0][1])
        twin._frames = list(self._frames)
        twin._held = list(self._held)
        twin._pending = list(self._pending)
        twin._length = self._length
        twin._run = list(self._run)
        return twin

    def _release(self):
        self._held.pop()
        if not self._held:
            # The body of the first pending hook is the last one to be put on, so it is topmost.
            self._frames.extend([(hook, BODY) for hook in self._pending[::-1]])
            self._pending = []

    def _invoke(self, hook):
        if self._held and self._library.is_deferred(hook):
            self._pending.append(hook)
        else:
            self._frames.append((hook, BODY))


def play(library, run):
    """Returns the thread after the run, or raises BadRun."""
    starts = [("start", entry) for entry in library.entries]
    if len(run) == 0 or run[0] not in starts:
        raise BadRun(0)
    thread = Thread(library, run[0][1])
    for at, move in enumerate(run[1:], start=1):
        try:
            thread.step(move)
        except WrongMove as error:
            raise BadRun(at) from error
    return thread


def shortest_run(library, entry):
    """Returns the run in which the thread makes default moves until it has ended."""
    thread = Thread(library, entry)
    while not thread.ended:
        thread.step(thread.moves()[-1])
    return thread.run
