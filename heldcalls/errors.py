"""The errors that the program raises."""


class HeldError(ValueError):
    """The base class of all errors of the program."""


class LineError(HeldError):
    """The line with this number breaks a rule of the text of a library."""

    def __init__(self, number):
        self.number = number


class BadForm(LineError):
    """The line has none of the forms."""


class Misplaced(LineError):
    """The line stands where it must not, or the text ends inside a routine."""


class Duplicate(LineError):
    """The line gives a name a second time."""


class Unknown(LineError):
    """The line uses a name that is not declared as it must be."""


class NotNested(LineError):
    """The line breaks the nesting of acquires and releases."""


class TooMany(LineError):
    """The line is one more than the text may have of its kind."""


class TooLong(LineError):
    """The line ends a routine whose call length is too great."""


class NoName(HeldError):
    """There is nothing of the kind in question that has this name."""

    def __init__(self, name):
        self.name = name


class Repeated(HeldError):
    """The name is there already."""

    def __init__(self, name):
        self.name = name


class Overfull(HeldError):
    """The sum of two libraries has more parts than a library may have."""


class WrongMove(HeldError):
    """The thread cannot make this move next."""

    def __init__(self, move):
        self.move = move


class BadRun(HeldError):
    """The moves are not a run; at is the index of the first that cannot be made."""

    def __init__(self, at):
        self.at = at


class NoThread(HeldError):
    """No thread has this number."""

    def __init__(self, thread):
        self.thread = thread


class MustWait(HeldError):
    """The thread must wait for the lock, which the thread "blocker" holds."""

    def __init__(self, lock, blocker):
        self.lock = lock
        self.blocker = blocker


class Refused(HeldError):
    """Of steps that are attempted together, step number at cannot be made."""

    def __init__(self, at):
        self.at = at


class Deadlocked(HeldError):
    """The threads of the cycle wait for each other."""

    def __init__(self, cycle):
        self.cycle = cycle


class NoRequest(HeldError):
    """The table does not contain this request."""

    def __init__(self, request):
        self.request = request


class NoContext(HeldError):
    """The library does not have this context."""

    def __init__(self, context):
        self.context = context


class NoRunCycle(HeldError):
    """The runs are not a run cycle."""


class Clash(HeldError):
    """The runs cannot be interleaved, because of the locks of the cycle."""

    def __init__(self, cycle):
        self.cycle = cycle


class NoLockOrder(HeldError):
    """The locks have no order, because of the lock cycle."""

    def __init__(self, cycle):
        self.cycle = cycle
