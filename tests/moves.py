"""Plain searches over the moves of points 15 and 16, written apart from the program.

A state is a triple (frames, held, pending) of tuples, the topmost frame last.
"""

import heapq

COUNTED = {"acquire", "release", "call", "skip", "invoke", "return"}


def start_state(entry):
    return ((entry, 0),), (), ()


def next_moves(library, state):
    """The moves of point 15 in order, pairs (move, state that it leads to)."""
    frames, held, pending = state
    if not frames:
        return []
    lower, (name, place) = frames[:-1], frames[-1]
    if place == -1:
        back = [(("callback", routine), (frames + ((routine, 0),), held, pending))
                for routine in library.callbacks(name)]
        return back + [(("done", name), (lower, held, pending))]
    if place == len(library.statements(name)):
        return [(("return", name), (lower, held, pending))]
    word, other = library.statements(name)[place]
    after = lower + ((name, place + 1),)
    call = (("call", other), (after + ((other, 0),), held, pending))
    if word == "call":
        return [call]
    if word == "maybe":
        return [call, (("skip", other), (after, held, pending))]
    if word == "acquire":
        return [((word, other), (after, held + (other,), pending))]
    if word == "release":
        assert held[-1] == other
        if held[:-1]:
            return [((word, other), (after, held[:-1], pending))]
        return [((word, other), (after + tuple((hook, -1) for hook in reversed(pending)), (), ()))]
    if held and library.is_deferred(other):
        return [((word, other), (after, held, pending + (other,)))]
    return [((word, other), (after + ((other, -1),), held, pending))]


def held_set(library, held):
    return tuple(lock for lock in library.locks if lock in held)


class Search:
    """Everything that a thread can do in at most so many statements, all runs tried.

    contexts and requests are dicts with least lengths, invoked is a dict of the held sets of each hook.
    The search gives up (complete is False) behind a number of states.
    """

    def __init__(self, library, most, *, states=20000):
        self.library = library
        self.contexts = {}
        self.requests = {}
        self.invoked = {hook: set() for hook in library.hooks}
        self.complete = True
        self.reached = -1
        queue = []
        for entry in library.entries:
            self.contexts.setdefault((entry, ()), 0)
            queue.append((0, start_state(entry)))
        heapq.heapify(queue)
        seen = set()
        while queue:
            length, state = heapq.heappop(queue)
            if state in seen or length > most:
                continue
            if len(seen) == states:
                self.complete = False
                break
            seen.add(state)
            # States come in the order of their lengths, so all that is shorter is known.
            self.reached = length
            self.look(length, state)
            for move, later in next_moves(library, state):
                cost = length + (move[0] in COUNTED)
                if move[0] in ("call", "callback"):
                    context = (move[1], held_set(library, later[1]))
                    self.contexts[context] = min(cost, self.contexts.get(context, cost))
                heapq.heappush(queue, (cost, later))
        self.most = most if self.complete else self.reached - 1

    def look(self, length, state):
        moves = [move for move, _ in next_moves(self.library, state)]
        held = held_set(self.library, state[1])
        for word, name in moves:
            if word == "acquire":
                self.requests.setdefault((held, name), length)
            if word == "invoke":
                self.invoked[name].add(held)
