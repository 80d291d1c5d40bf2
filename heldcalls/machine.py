"""Machines: several threads of one library that wait for each other's locks."""

from heldcalls.errors import HeldError, MustWait, NoName, NoThread, Refused
from heldcalls.threads import Thread


class Machine:
    """The threads of one library, numbered from 0 in the order of their starts."""

    def __init__(self, library, *, reentrant=True):
        self._library = library
        self._reentrant = reentrant
        self._threads = []
        self._steps = []
        # The number of the thread that holds it, for each lock that is held.
        self._holders = {}

    @property
    def steps(self):
        """All steps made so far."""
        return tuple(self._steps)

    def __len__(self):
        """The number of threads started so far."""
        return len(self._threads)

    def start(self, entry):
        """Starts a thread and returns its number."""
        number = len(self._threads)
        self.step(number, ("start", entry))
        return number

    def step(self, thread, move):
        """Makes the step, or raises the error that forbids it; then nothing changes."""
        word, name = move
        if word == "start":
            self._start(thread, name)
        else:
            self._go_on(thread, move)
        self._steps.append((thread, move))

    def moves(self, thread):
        """Returns the moves that the thread could make by its own state."""
        return self._thread_of(thread).moves()

    def state_of(self, thread):
        """Returns an independent thread in the same state as this thread."""
        return self._thread_of(thread).duplicate()

    def holder(self, lock):
        """Returns the number of the thread that holds the lock, or None."""
        if lock not in self._library.locks:
            raise NoName(lock)
        return self._holders.get(lock)

    def waits_for(self, thread):
        """Returns the number of the thread for which this one must wait, or None."""
        wanted = self._thread_of(thread).wants
        if wanted is None:
            return None
        blocker = self.holder(wanted)
        if blocker == thread and self._reentrant:
            return None
        return blocker

    def deadlock(self):
        """Returns the first deadlock, a tuple that begins with its least number, or () if there is none."""
        for first in range(len(self._threads)):
            line = [first]
            blocker = self.waits_for(first)
            while blocker is not None and blocker not in line:
                line.append(blocker)
                blocker = self.waits_for(blocker)
            # Of the threads of a deadlock the least one is the first from which it is found.
            if blocker == first:
                return tuple(line)
        return ()

    def attempt(self, steps):
        """Makes all the steps, or none of them and raises Refused."""
        trial = self.duplicate()
        for at, (thread, move) in enumerate(steps):
            try:
                trial.step(thread, move)
            except HeldError as error:
                raise Refused(at) from error
        self._threads = trial._threads
        self._steps = trial._steps
        self._holders = trial._holders

    def duplicate(self):
        """Returns an independent machine in the same state."""
        twin = Machine(self._library, reentrant=self._reentrant)
        twin._threads = [thread.duplicate() for thread in self._threads]
        twin._steps = list(self._steps)
        twin._holders = dict(self._holders)
        return twin

    def _thread_of(self, number):
        if number < 0 or number >= len(self._threads):
            raise NoThread(number)
        return self._threads[number]

    def _start(self, number, entry):
        if number != len(self._threads):
            raise NoThread(number)
        self._threads.append(Thread(self._library, entry))

    def _go_on(self, number, move):
        acting = self._thread_of(number)
        blocker = self.waits_for(number)
        if blocker is not None and move in acting.moves():
            raise MustWait(move[1], blocker)
        acting.step(move)
        word, lock = move
        if word == "acquire":
            self._holders[lock] = number
        elif word == "release" and lock not in acting.held:
            del self._holders[lock]
