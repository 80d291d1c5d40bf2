"""Complete calls as point 18 speaks of them, found by trying the moves of points 15 and 16.

The thread holds a lock all the time, so a deferred hook that is invoked only becomes pending.
"""

import heapq


def call_by_default_moves(library, routine):
    """The number of statements of the complete call that makes default moves only."""
    frames = [(routine, 0)]
    length = 0
    while frames:
        name, place = frames.pop()
        if place == -1:
            continue
        length += 1
        if place == len(library.statements(name)):
            continue
        frames.append((name, place + 1))
        word, other = library.statements(name)[place]
        if word == "call":
            frames.append((other, 0))
        elif word == "invoke" and not library.is_deferred(other):
            frames.append((other, -1))
    return length


def next_states(library, frames, hook, done):
    """The states that the next moves lead to: triples (frames, hook was invoked, statements executed)."""
    *lower, (name, place) = frames
    lower = tuple(lower)
    if place == -1:
        return [(frames + ((called, 0),), done, 0) for called in library.callbacks(name)] + [(lower, done, 0)]
    if place == len(library.statements(name)):
        return [(lower, done, 1)]
    word, other = library.statements(name)[place]
    after = lower + ((name, place + 1),)
    if word == "call":
        return [(after + ((other, 0),), done, 1)]
    if word == "maybe":
        return [(after + ((other, 0),), done, 1), (after, done, 1)]
    if word == "invoke":
        body = () if library.is_deferred(other) else ((other, -1),)
        return [(after + body, done or other == hook, 1)]
    return [(after, done, 1)]


def can_invoke(library, routine, hook):
    """Tells whether the routine can invoke the hook without a deferred body."""
    reached = [routine]
    for name in reached:
        for word, other in library.statements(name):
            if (word, other) == ("invoke", hook):
                return True
            if word in ("call", "maybe"):
                reached += [other] * (other not in reached)
            if word == "invoke" and not library.is_deferred(other):
                reached += [called for called in library.callbacks(other) if called not in reached]
    return False


def least_call_with(library, routine, hook):
    """The least number of statements of a complete call in which the hook is invoked, or None."""
    if not can_invoke(library, routine, hook):
        return None
    rest = {(name, place): call_by_default_moves(library, name) for name in library.routines for place in [0]}
    for name in library.routines:
        for place, (word, other) in enumerate(library.statements(name)):
            cost = 1 + (rest[other, 0] if word == "call" else 0)
            rest[name, place + 1] = rest[name, place] - cost
    rest.update({(hook, -1): 0 for hook in library.hooks})

    def least(length, frames):
        return length + sum(rest[frame] for frame in frames)

    start = ((routine, 0),)
    queue = [(least(0, start), 0, start, False)]
    seen = set()
    while queue:
        _, length, frames, done = heapq.heappop(queue)
        if not frames and done:
            return length
        if not frames or (frames, done) in seen:
            continue
        seen.add((frames, done))
        for later, told, cost in next_states(library, frames, hook, done):
            heapq.heappush(queue, (least(length + cost, later), length + cost, later, told))
    raise AssertionError("the queue ends only when no call invokes the hook")
