"""Finishing a machine: its threads make default moves until all of them have ended."""

from heldcalls.errors import Deadlocked


def finish(machine):
    """Returns the steps that finish the machine, or raises Deadlocked; the machine does not change."""
    trial = machine.duplicate()
    thread = next_free(trial, 0)
    while thread is not None:
        move = trial.moves(thread)[-1]
        trial.step(thread, move)
        # Only after a release can a thread go on that had to wait before.
        thread = next_free(trial, 0 if move[0] == "release" else thread)
    if any([trial.moves(number) for number in range(len(trial))]):
        raise Deadlocked(trial.deadlock())
    return trial.steps[len(machine.steps):]


def next_free(machine, first):
    """Returns the least thread from the first one on that has not ended and need not wait, or None."""
    for thread in range(first, len(machine)):
        if machine.moves(thread) and machine.waits_for(thread) is None:
            return thread
    return None
