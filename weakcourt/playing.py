"""Logs that are played plainly, as if nothing were ever condemned."""

from weakcourt.commands import do, fault_of
from weakcourt.heaps import holding, keeping, numbers_of
from weakcourt.observations import LOADING, loaded
from weakcourt.states import heap_in, starting


def play(heap, log):
    """The plain heap behind the log."""
    there = heap
    for command, result in log:
        there = behind_command(there, command, result)
    return there


def behind_command(there, command, result):
    """The plain heap behind the command, which loads what was seen, whether it fails or not."""
    behind = without_loading(there, command, result)
    if command[0] not in LOADING:
        return behind
    return holding(behind, command[1], seen_in(behind, command, result))


def told_in(there, command):
    """What a command that does not fail gives in the plain heap."""
    return do(starting(there), command)[1]


def without_loading(there, command, result):
    """The plain heap behind the command; what is in the register that it loads counts for nothing."""
    if fault_of(there, command) is not None:
        return there
    if command[0] != "deref":
        return heap_in(do(starting(there), command)[0])
    seen = seen_in(there, command, result)
    return there if seen is None else keeping(there, seen)


def seen_in(there, command, result):
    """What the command loads by the result that was seen: an object of this heap, or None."""
    held = loaded(command, result)
    return held if held in numbers_of(there) else None
