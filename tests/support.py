"""What several test files need: errors with their fields, texts of random libraries, and random tables."""

import random

from heldcalls.errors import LineError
from heldcalls.library import Library
from heldcalls.tables import table_of


def error_of(text):
    """Returns the pair (name of the class, number) of the error of a text, or None if it has none."""
    try:
        Library.read(text)
    except LineError as error:
        assert type(error.number) is int
        return type(error).__name__, error.number
    return None


def text_of(*lines):
    return "\n".join(lines)


class Maker:
    """Makes the text of a random library that keeps to the rules."""

    def __init__(self, seed, *, locks=5, hooks=4, routines=5, statements=10):
        self.chance = random.Random(seed)
        names = self.chance.sample(["a", "b", "end", "lock", "entry", "maybe", "go", "run", "stopping",
                                    "x", "y", "hook", "zz", "routine", "put", "get"], 14)
        self.locks = names[:self.chance.randint(0, locks)]
        self.hooks = names[5:5 + self.chance.randint(0, hooks)]
        self.routines = names[9:9 + self.chance.randint(0, routines)]
        self.least = 0
        self.statements = statements
        self.lengths = {}

    def text(self):
        lines = [f"lock {lock}" for lock in self.locks]
        for hook in self.hooks:
            word = self.chance.choice(["hook", "hook", "deferred"])
            lines.append(" ".join([word, hook, *self.some(self.routines)]))
        for routine in self.routines:
            lines.extend([f"routine {routine}", *self.body(routine), "end"])
        lines.extend(f"entry {routine}" for routine in self.some(self.routines))
        return "\n".join(lines)

    def some(self, names):
        return self.chance.sample(names, self.chance.randint(0, len(names)))

    def body(self, routine):
        lines = []
        held = []
        length = 1
        room = self.chance.randint(self.least, self.statements)
        while len(lines) + len(held) < room:
            word = self.chance.choice(["acquire", "acquire", "release", "call", "maybe", "invoke", "invoke"])
            if word == "release" and held:
                lines.append(f"release {held.pop()}")
            elif word == "acquire" and self.locks and len(lines) + len(held) + 2 <= room:
                held.append(self.chance.choice(self.locks))
                lines.append(f"acquire {held[-1]}")
            elif word == "maybe":
                lines.append(f"maybe {self.chance.choice(self.routines)}")
            elif word == "invoke" and self.hooks:
                lines.append(f"invoke {self.chance.choice(self.hooks)}")
            elif word == "call" and self.lengths:
                called = self.chance.choice(list(self.lengths))
                if length + self.lengths[called] + 2 * room < 60:
                    length += self.lengths[called]
                    lines.append(f"call {called}")
        lines.extend(f"release {lock}" for lock in reversed(held))
        self.lengths[routine] = length + len(lines)
        return lines


def random_text(seed, **most):
    return Maker(seed, **most).text()


class DenseMaker(Maker):
    """Makes a small library with entries, in which hooks are often deferred and locks are often held."""

    def __init__(self, seed):
        super().__init__(seed)
        self.locks = self.chance.sample(["a", "b", "lock"], self.chance.randint(1, 3))
        self.hooks = ["h", "i", "end"][:self.chance.randint(1, 3)]
        self.routines = ["p", "q", "r", "call"][:self.chance.randint(1, 4)]
        self.least = 3
        self.statements = 7

    def text(self):
        lines = [f"lock {lock}" for lock in self.locks]
        for hook in self.hooks:
            word = self.chance.choice(["hook", "deferred", "deferred"])
            lines.append(" ".join([word, hook, *self.some(self.routines)]))
        for routine in self.routines:
            lines.extend([f"routine {routine}", *self.body(routine), "end"])
        entries = self.chance.sample(self.routines, self.chance.randint(1, min(2, len(self.routines))))
        lines.extend(f"entry {routine}" for routine in entries)
        return "\n".join(lines)


def dense_text(seed):
    return DenseMaker(seed).text()


class FullMaker(Maker):
    """Makes a library at all its bounds."""

    def __init__(self, seed):
        super().__init__(seed)
        self.locks = list("abcde")
        self.hooks = list("hijk")
        self.routines = list("pqrst")
        self.least = 10

    def text(self):
        lines = [f"lock {lock}" for lock in self.locks]
        for hook in self.hooks:
            word = self.chance.choice(["hook", "deferred"])
            lines.append(" ".join([word, hook, *self.chance.sample(self.routines, 5)]))
        for routine in self.routines:
            lines.extend([f"routine {routine}", *self.body(routine), "end"])
        return "\n".join([*lines, *(f"entry {routine}" for routine in self.routines)])


def full_text(seed):
    return FullMaker(seed).text()


def raised(kind, function, *given, **named):
    """Returns the fields of the error of exactly this class that the call raises."""
    try:
        function(*given, **named)
    except kind as error:
        assert type(error) is kind, error
        return vars(error)
    raise AssertionError(f"no {kind.__name__}")


def random_table(seed, *, locks="abcde", libraries=6):
    """Returns a table joined from small libraries whose routines acquire some locks one after another."""
    chance = random.Random(seed)
    table = table_of(Library.read(text_of(*[f"lock {lock}" for lock in locks])))
    for _ in range(chance.randint(0, libraries)):
        nest = chance.sample(locks, chance.randint(1, min(4, len(locks))))
        if chance.random() < 0.3:
            nest[-1] = chance.choice(nest)
        body = []
        for lock in nest:
            body += ["invoke h"] * chance.randint(0, 1) * (len(nest) < 4) + [f"acquire {lock}"]
        body += [f"release {lock}" for lock in reversed(nest)]
        order = chance.sample(locks, len(locks))
        table = table | table_of(Library.read(text_of(
            *[f"lock {lock}" for lock in order], "hook h", "routine r", *body, "end", "entry r")))
    return table


class TinyMaker(DenseMaker):
    """Makes a library so small that two threads can be searched through; it is unsafe more often than others."""

    def __init__(self, seed):
        super().__init__(seed)
        self.locks = ["b", "a", "c"][:self.chance.choice([2, 2, 3])]
        self.hooks = ["h", "i"][:self.chance.randint(1, 2)]
        self.routines = ["p", "q", "r"][:self.chance.randint(2, 3)]

    def body(self, routine):
        inner = [self.chance.choice(self.locks)]
        if self.chance.random() < 0.6:
            inner = self.chance.sample(self.locks, 2)
        lines = []
        for lock in inner:
            lines += [*self.between(), f"acquire {lock}"]
        for lock in reversed(inner):
            lines += [*self.between(), f"release {lock}"]
        return lines + self.between()

    def between(self):
        if self.chance.random() < 0.7:
            return []
        return [self.chance.choice([*[f"invoke {hook}" for hook in self.hooks] * 2,
                                    f"maybe {self.chance.choice(self.routines)}"])]


def tiny_text(seed):
    return TinyMaker(seed).text()
