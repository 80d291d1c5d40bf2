"""Libraries: locks, hooks, routines and entries."""

from heldcalls.errors import NoName, Overfull, Repeated
from heldcalls.reading import Bounds, parse


def check_given(names, known):
    """Raises the error of the first name that is not known or was given before."""
    for at, name in enumerate(names):
        if name not in known:
            raise NoName(name)
        if name in names[:at]:
            raise Repeated(name)


class Library:
    """A library, which never changes."""

    def __init__(self, locks, hooks, routines, entries):
        self._locks = tuple(locks)
        # Pairs (deferred, callbacks) by the names of the hooks, in order.
        self._hooks = dict(hooks)
        # Tuples of statements by the names of the routines, in order.
        self._routines = dict(routines)
        self._entries = tuple(entries)

    @classmethod
    def read(cls, text):
        """Returns the library that the text describes."""
        locks, hooks, routines, entries = parse(text)
        return cls(locks, hooks, routines, entries)

    def written(self):
        """Returns the text of the library."""
        lines = [f"lock {lock}" for lock in self._locks]
        for hook, (deferred, callbacks) in self._hooks.items():
            kind = "deferred" if deferred else "hook"
            lines.append(" ".join([kind, hook, *callbacks]))
        for routine, statements in self._routines.items():
            lines.append(f"routine {routine}")
            lines.extend([f"{word} {name}" for word, name in statements])
            lines.append("end")
        lines.extend([f"entry {entry}" for entry in self._entries])
        return "\n".join(lines)

    @property
    def locks(self):
        """The names of the locks."""
        return self._locks

    @property
    def hooks(self):
        """The names of the hooks."""
        return tuple(self._hooks)

    @property
    def routines(self):
        """The names of the routines."""
        return tuple(self._routines)

    @property
    def entries(self):
        """The names of the routines that are entries."""
        return self._entries

    def statements(self, routine):
        """Returns the statements of the routine, pairs (word, name)."""
        if routine not in self._routines:
            raise NoName(routine)
        return self._routines[routine]

    def callbacks(self, hook):
        """Returns the callbacks of the hook."""
        if hook not in self._hooks:
            raise NoName(hook)
        return self._hooks[hook][1]

    def is_deferred(self, hook):
        """Tells whether the hook is deferred."""
        if hook not in self._hooks:
            raise NoName(hook)
        return self._hooks[hook][0]

    def deferring(self, *hooks):
        """Returns the library with these hooks deferred."""
        check_given(hooks, self._hooks)
        changed = {
            hook: (deferred or hook in hooks, callbacks)
            for hook, (deferred, callbacks) in self._hooks.items()
        }
        return Library(self._locks, changed, self._routines, self._entries)

    def with_callbacks(self, hook, callbacks):
        """Returns the library in which the hook has these callbacks."""
        deferred = self.is_deferred(hook)
        check_given(callbacks, self._routines)
        changed = {**self._hooks, hook: (deferred, tuple(callbacks))}
        return Library(self._locks, changed, self._routines, self._entries)

    def keeping(self, locks):
        """Returns the library without the other locks and without their acquires and releases."""
        check_given(locks, self._locks)
        kept = [lock for lock in self._locks if lock in locks]
        # A lock shares its name with no routine and no hook, so only acquires and releases have it.
        dropped = [lock for lock in self._locks if lock not in locks]
        changed = {
            routine: tuple([statement for statement in statements if statement[1] not in dropped])
            for routine, statements in self._routines.items()
        }
        return Library(kept, self._hooks, changed, self._entries)

    def __add__(self, other):
        """Returns the sum of the two libraries."""
        self._check_apart(other)
        added = [lock for lock in other.locks if lock not in self._locks]
        locks = (*self._locks, *added)
        hooks = {**self._hooks, **other._hooks}
        routines = {**self._routines, **other._routines}
        if len(locks) > Bounds.LOCKS or len(hooks) > Bounds.HOOKS or len(routines) > Bounds.ROUTINES:
            raise Overfull()
        return Library(locks, hooks, routines, (*self._entries, *other.entries))

    def _check_apart(self, other):
        """Raises Repeated for the first name of the other library that may not be shared."""
        own = (*self._hooks, *self._routines)
        for lock in other.locks:
            if lock in own:
                raise Repeated(lock)
        for name in (*other.hooks, *other.routines):
            if name in self._locks or name in own:
                raise Repeated(name)
