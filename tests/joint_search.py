"""A plain search over the steps of several threads, written apart from the program.

Each thread is a state as in moves.py.
"""

import heapq
import itertools

from tests.moves import COUNTED, next_moves, start_state


def wanted_lock(library, state):
    moves = next_moves(library, state)
    return moves[0][0][1] if moves and moves[0][0][0] == "acquire" else None


def is_deadlock(library, states, reentrant):
    """Tells whether all the threads wait in one ring, a single one for itself."""
    wanted = [wanted_lock(library, state) for state in states]
    at, ring = 0, []
    while at not in ring:
        ring.append(at)
        holders = [thread for thread, (_, held, _) in enumerate(states) if wanted[at] in held]
        if not holders or holders == [at] and (reentrant or len(states) > 1):
            return False
        at = holders[0]
    return at == 0 and len(ring) == len(states)


def least_deadlock(library, threads, reentrant, *, states=6000):
    """Returns (statements, True) for the least number after which so many threads are in a deadlock.

    If there is none, or if so many states have been seen, it returns (statements, False): up to there is none.
    """
    queue, seen = [], set()
    for entries in itertools.combinations_with_replacement(sorted(library.entries), threads):
        heapq.heappush(queue, (0, tuple(start_state(entry) for entry in entries)))
    while queue:
        total, joint = heapq.heappop(queue)
        if joint in seen:
            continue
        if is_deadlock(library, joint, reentrant):
            return total, True
        if len(seen) == states:
            return total - 1, False
        seen.add(joint)
        for thread, state in enumerate(joint):
            for move, later in next_moves(library, state):
                others = [other for at, other in enumerate(joint) if at != thread or not reentrant]
                if move[0] == "acquire" and any(move[1] in held for _, held, _ in others):
                    continue
                rest = (*joint[:thread], later, *joint[thread + 1:])
                heapq.heappush(queue, (total + (move[0] in COUNTED), rest))
    return 10 ** 9, False
