"""Reading the text of a library, line by line."""

from heldcalls.errors import BadForm, Duplicate, Misplaced, NotNested, TooLong, TooMany, Unknown

ALPHABET = "abcdefghijklmnopqrstuvwxyz"
HOOK_WORDS = ("hook", "deferred")
STATEMENT_WORDS = ("acquire", "release", "call", "maybe", "invoke")

# The parts of a text, in their order, by the first words of their lines.
PARTS = {"lock": 0, "hook": 1, "deferred": 1, "routine": 2, "entry": 3}


class Bounds:
    """The greatest numbers that the text of a library may reach."""

    LOCKS = 5
    HOOKS = 4
    ROUTINES = 5
    STATEMENTS = 10
    LENGTH = 60
    LETTERS = 8


def is_name(word):
    """Tells whether the word is a name."""
    if len(word) < 1 or len(word) > Bounds.LETTERS:
        return False
    return all([letter in ALPHABET for letter in word])


def has_form(words):
    """Tells whether the words have one of the forms of a line."""
    names = words[1:]
    if not all([is_name(name) for name in names]):
        return False
    if words[0] == "end":
        return names == []
    if words[0] in HOOK_WORDS:
        return names != []
    return len(names) == 1 and (words[0] in STATEMENT_WORDS or words[0] in PARTS)


def split_lines(text):
    """Returns the list of the lines of a text."""
    if text == "":
        return []
    return text.split("\n")


def statement_length(statement, lengths):
    """Returns the length of a statement; lengths has the call lengths of the routines that it may call."""
    word, name = statement
    if word == "call":
        return 1 + lengths[name]
    return 1


def length_of_call(statements, lengths):
    """Returns the call length of a routine with these statements."""
    return sum([statement_length(statement, lengths) for statement in statements]) + 1


def parse(text):
    """Returns the locks, hooks, routines and entries that the text describes.

    The hooks are a dict of pairs (deferred, callbacks), the routines a dict of tuples of statements.
    """
    draft = Draft()
    lines = split_lines(text)
    for number, line in enumerate(lines, start=1):
        draft.take(number, line)
    draft.check_end(len(lines))
    return draft.parts()


class Draft:
    """What the lines that have been read so far declare."""

    def __init__(self):
        self._locks = []
        self._hooks = {}
        self._routines = {}
        self._entries = []
        # The last part of the text that has begun.
        self._part = 0
        # Call lengths of the routines that have ended.
        self._lengths = {}
        # The routine that has begun and not ended, its statements and its acquires without a release.
        self._routine = None
        self._statements = []
        self._unreleased = []
        # Pairs (line, name): names that may be declared as routines by later lines.
        self._awaited = []

    def take(self, number, line):
        """Takes in the next line, or raises the error of the first rule that it breaks."""
        words = line.split(" ")
        if not has_form(words):
            raise BadForm(number)
        if self._misplaces(words[0]):
            raise Misplaced(number)
        if words[0] == "end":
            self._end_routine(number)
        elif words[0] in STATEMENT_WORDS:
            self._add_statement(number, words[0], words[1])
        else:
            self._part = PARTS[words[0]]
            self._declare(number, words)

    def check_end(self, count):
        """Raises the error that shows only behind the last line, if there is one; count is the number of lines."""
        if self._routine is not None:
            raise Misplaced(count + 1)
        for number, name in self._awaited:
            if name not in self._routines:
                raise Unknown(number)

    def parts(self):
        """Returns the locks, hooks, routines and entries."""
        return self._locks, self._hooks, self._routines, self._entries

    def _misplaces(self, word):
        in_routine = word == "end" or word in STATEMENT_WORDS
        if self._routine is not None:
            return not in_routine
        return in_routine or PARTS[word] < self._part

    def _declare(self, number, words):
        if words[0] == "entry":
            self._add_entry(number, words[1])
            return
        callbacks = words[2:]
        if self._is_declared(words[1]) or len(set(callbacks)) < len(callbacks):
            raise Duplicate(number)
        if words[0] == "lock":
            self._add_lock(number, words[1])
        elif words[0] == "routine":
            self._begin_routine(number, words[1])
        else:
            self._add_hook(number, words[0] == "deferred", words[1], callbacks)

    def _is_declared(self, name):
        return name in self._locks or name in self._hooks or name in self._routines

    def _add_lock(self, number, lock):
        if len(self._locks) == Bounds.LOCKS:
            raise TooMany(number)
        self._locks.append(lock)

    def _add_hook(self, number, deferred, hook, callbacks):
        if len(self._hooks) == Bounds.HOOKS:
            raise TooMany(number)
        self._hooks[hook] = (deferred, tuple(callbacks))
        self._awaited.extend([(number, name) for name in callbacks])

    def _begin_routine(self, number, routine):
        if len(self._routines) == Bounds.ROUTINES:
            raise TooMany(number)
        self._routine = routine
        self._statements = []

    def _add_statement(self, number, word, name):
        if self._is_unknown(word, name):
            raise Unknown(number)
        if word == "release" and self._unreleased[-1:] != [name]:
            raise NotNested(number)
        if len(self._statements) == Bounds.STATEMENTS:
            raise TooMany(number)
        self._statements.append((word, name))
        if word == "acquire":
            self._unreleased.append(name)
        elif word == "release":
            self._unreleased.pop()
        elif word == "maybe":
            self._awaited.append((number, name))

    def _is_unknown(self, word, name):
        if word == "maybe":
            return False
        if word == "call":
            return name not in self._routines
        if word == "invoke":
            return name not in self._hooks
        return name not in self._locks

    def _end_routine(self, number):
        if self._unreleased:
            raise NotNested(number)
        length = length_of_call(self._statements, self._lengths)
        if length > Bounds.LENGTH:
            raise TooLong(number)
        self._routines[self._routine] = tuple(self._statements)
        self._lengths[self._routine] = length
        self._routine = None

    def _add_entry(self, number, routine):
        if routine in self._entries:
            raise Duplicate(number)
        if routine not in self._routines:
            raise Unknown(number)
        self._entries.append(routine)
