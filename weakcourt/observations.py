"""Observations: a command of a program, and the result that it saw."""

from weakcourt.commands import do
from weakcourt.errors import CommandFault

MAKING = ("record", "weak", "table")
LOADING = ("record", "weak", "table", "copy", "clear", "read", "deref", "lookup")


def is_whole(value):
    """Whether anything is a whole number from 0 on, which truth values are not."""
    return type(value) == int and value >= 0


def is_tokens(value):
    """Whether anything is a tuple of tokens."""
    return type(value) == tuple and all([is_whole(token) for token in value])


def is_same(told, result):
    """Whether the result, which may be anything, is the reference or the truth value that was told."""
    if told is None:
        return result is None
    # Kinds are asked before values are compared: Python takes True and 1 for the same.
    if type(told) == bool:
        return type(result) == bool and result == told
    return type(result) == int and result == told


def loaded(command, result):
    """The reference that the register which the command loads holds by what was seen."""
    return result if is_whole(result) and command[0] != "clear" else None


def behind_observation(state, observation):
    """The state behind the command, None if it is not done there with the observed result."""
    command, result = observation
    if command[0] == "drain":
        return behind_drain(state, result)
    try:
        behind, told = do(state, command)
    except CommandFault:
        return None
    return behind if is_same(told, result) else None


def behind_drain(state, result):
    """The state without the tokens that were drained, None if these are not all pending."""
    if not is_tokens(result):
        return None
    word, heap, pending = state
    left = list(pending)
    for token in result:
        if token not in left:
            return None
        left.remove(token)
    return (word, heap, tuple(left))
