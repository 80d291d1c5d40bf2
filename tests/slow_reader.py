"""A second reader, which looks at every line anew from the whole text before it.

It tells only which rule of point 6 a text breaks first. It is written from the document, in
another way than the program, so that the two can be compared on many texts.
"""

import re

FORM = re.compile(
    r"(lock|routine|acquire|release|call|maybe|invoke|entry) [a-z]{1,8}"
    r"|(hook|deferred) [a-z]{1,8}( [a-z]{1,8})*"
    r"|end"
)
STATEMENTS = ("acquire", "release", "call", "maybe", "invoke")
MAY_FOLLOW = {
    "lock": ("lock",),
    "hook": ("lock", "hook", "deferred"),
    "deferred": ("lock", "hook", "deferred"),
    "routine": ("lock", "hook", "deferred", "routine", "end", *STATEMENTS),
    "entry": ("lock", "hook", "deferred", "routine", "end", "entry", *STATEMENTS),
}


def second(lines, *words):
    return [line.split()[1] for line in lines if line.split()[0] in words]


def is_inside(lines):
    return len(second(lines, "routine")) > lines.count("end")


def body_before(lines):
    """The statements of the last routine, pairs."""
    body = []
    for line in lines:
        body = [] if line.startswith("routine ") else body + [tuple(line.split())]
    return body


def ended(lines):
    names = second(lines, "routine")
    return names[:-1] if is_inside(lines) else names


def nesting(body):
    held = []
    for word, name in body:
        if word == "acquire":
            held = held + [name]
        if word == "release":
            held = held[:-1]
    return held


def call_length(lines, body):
    total = 1
    for word, name in body:
        total += 1
        if word == "call":
            begin = lines.index(f"routine {name}")
            end = lines.index("end", begin)
            total += call_length(lines, [tuple(line.split()) for line in lines[begin + 1:end]])
    return total


def misplaced(lines, word):
    if is_inside(lines):
        return word not in STATEMENTS and word != "end"
    if word in STATEMENTS or word == "end":
        return True
    return not all(line.split()[0] in MAY_FOLLOW[word] for line in lines)


def duplicate(lines, word, names):
    declaring = ("lock", "hook", "deferred", "routine")
    if word in declaring and names[0] in second(lines, *declaring):
        return True
    if word in ("hook", "deferred") and any(names[1:].count(name) > 1 for name in names[1:]):
        return True
    return word == "entry" and names[0] in second(lines, "entry")


def unknown(lines, word, names):
    known = {
        "acquire": second(lines, "lock"),
        "release": second(lines, "lock"),
        "invoke": second(lines, "hook", "deferred"),
        "call": ended(lines),
        "entry": second(lines, "routine"),
    }
    return word in known and names[0] not in known[word]


def not_nested(lines, word, names):
    held = nesting(body_before(lines)) if is_inside(lines) else []
    return (word == "release" and held[-1:] != names) or (word == "end" and held != [])


def too_many(lines, word):
    if word in STATEMENTS:
        return len(body_before(lines)) >= 10
    after = [*lines, f"{word} x"]
    return (len(second(after, "lock")) > 5 and word == "lock"
            or len(second(after, "hook", "deferred")) > 4 and word in ("hook", "deferred")
            or len(second(after, "routine")) > 5 and word == "routine")


def error_of_line(lines, line):
    """The rule that the line breaks, which follows the given lines, or None."""
    if not FORM.fullmatch(line):
        return "BadForm"
    word, *names = line.split(" ")
    if misplaced(lines, word):
        return "Misplaced"
    if duplicate(lines, word, names):
        return "Duplicate"
    if unknown(lines, word, names):
        return "Unknown"
    if not_nested(lines, word, names):
        return "NotNested"
    if too_many(lines, word):
        return "TooMany"
    if word == "end" and call_length(lines, body_before(lines)) > 60:
        return "TooLong"
    return None


def first_error(text):
    """The pair (rule, number of the line) of the first wrong line, or None."""
    lines = text.split("\n") if text else []
    for at, line in enumerate(lines):
        error = error_of_line(lines[:at], line)
        if error:
            return error, at + 1
    if is_inside(lines):
        return "Misplaced", len(lines) + 1
    for at, line in enumerate(lines):
        word, *names = line.split()
        named = names[1:] if word in ("hook", "deferred") else names if word == "maybe" else []
        if not all(name in second(lines, "routine") for name in named):
            return "Unknown", at + 1
    return None
