"""States, a heap with the pending tokens, and what a collector does to them."""

from weakcourt.condemning import condemn, greatest, is_condemnable
from weakcourt.heaps import numbers_of


def starting(heap):
    """The state at first: nothing is pending."""
    return ("state", heap, ())


def heap_in(state):
    return state[1]


def pending_in(state):
    return state[2]


def giving_up(state, numbers):
    """The state behind condemning the set, None if it is no condemnable set of objects."""
    word, heap, pending = state
    there = numbers_of(heap)
    if not all([number in there for number in numbers]) or not is_condemnable(heap, numbers):
        return None
    behind, _, _, tokens = condemn(heap, numbers)
    return (word, behind, pending + tokens)


def greatest_in(state, candidates):
    """The greatest condemnable set of those candidates that are objects, rising."""
    there = numbers_of(heap_in(state))
    return greatest(heap_in(state), [number for number in candidates if number in there])
