"""Which sets of objects may be condemned, and what condemning them does."""

from weakcourt.heaps import dropping, kept_of, numbers_of, objects_of, watches_of
from weakcourt.rounds import rounds


def is_condemnable(heap, numbers):
    """Whether these objects may be condemned together."""
    kept = kept_of(heap)
    got = rounds(heap, numbers)
    return not any([number in kept or number in got for number in numbers])


def greatest(heap, candidates):
    """The greatest condemnable set of these candidates, rising."""
    kept = kept_of(heap)
    free = [number for number in sorted(set(candidates)) if number not in kept]
    # Taking out once is enough: what is taken out has been got already, so that as a target,
    # which weak references give from now on, it leads to nothing new.
    got = rounds(heap, free)
    return tuple([number for number in free if number not in got])


def along(heap, number):
    """What every condemnable set with the object has, rising; None if there is no such set."""
    everything = numbers_of(heap)
    if number not in greatest(heap, everything):
        return None
    return tuple([other for other in everything if not goes_without(heap, number, other)])


def goes_without(heap, number, other):
    """Whether some condemnable set has the object but not the other one."""
    # If there is such a set, the greatest one without the other object has all of it.
    return number in greatest(heap, [one for one in numbers_of(heap) if one != other])


def condemn(heap, numbers):
    """The heap behind condemning a condemnable set, what was cleared, what was removed, the tokens."""
    gone = {number: True for number in numbers}
    staying = [thing for thing in objects_of(heap) if thing[1] not in gone]
    tokens = tuple([token for number, token in watches_of(heap) if number in gone])
    return dropping(heap, gone), cleared_in(staying, gone), removed_from(staying, gone), tokens


def cleared_in(objects, gone):
    """The weak references among the objects whose targets are gone."""
    return tuple([thing[1] for thing in objects if thing[0] == "weak" and thing[2] in gone])


def removed_from(objects, gone):
    """The entries, as (table, key), of the tables among the objects whose keys are gone."""
    tables = [thing for thing in objects if thing[0] == "table"]
    return tuple([(table[1], key) for table in tables for key, _ in table[2] if key in gone])
