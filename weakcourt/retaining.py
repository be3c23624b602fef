"""What an object retains: what would not be reachable without it."""

from weakcourt.alive import reachable
from weakcourt.heaps import dropping


def retained(heap, number):
    """The objects that this one retains, rising."""
    left = {other: True for other in reachable(dropping(heap, {number: True}))}
    return tuple([other for other in reachable(heap) if other not in left])


def dominators(heap, number):
    """The objects that retain this one, rising."""
    return tuple([other for other in reachable(heap) if number in retained(heap, other)])
