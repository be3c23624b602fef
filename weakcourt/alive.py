"""Which objects a program can get hold of."""

from weakcourt.heaps import numbers_of
from weakcourt.rounds import rounds


def obtainable(heap, condemned):
    """The objects that are obtainable without the condemned ones, rising."""
    return tuple(sorted(rounds(heap, condemned)))


def reachable(heap):
    """The objects that are obtainable without all objects, rising."""
    return obtainable(heap, numbers_of(heap))
