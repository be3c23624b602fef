"""Papers of held objects: steps that show why objects cannot be given up ahead of an observation.

In all of this the heap is the plain one of then, and later tells, for each of its objects that is in
a later register, behind which observations it is.
"""

from weakcourt.derivations import derive, found_by, is_reason, named
from weakcourt.heaps import by_number, kept_of, numbers_of
from weakcourt.logs import registers_after
from weakcourt.playing import play
from weakcourt.rounds import rounds


def ahead_of(heap, log, place):
    """The plain heap ahead of the observation, and later."""
    there = play(heap, log[:place])
    numbers = numbers_of(there)
    rows = registers_after(heap, log)
    later = {}
    for j in range(place, len(log)):
        for number in numbers:
            if number in rows[j + 1]:
                later.setdefault(number, []).append(j)
    return there, later


def bare_reason(there, later, number):
    """The reason of an object that is held, but not got, None if it has none."""
    if number in kept_of(there):
        return ("kept",)
    return ("later", later[number][0]) if number in later else None


def free_in(there, later):
    """The objects that are neither kept nor in a later register: weak references do not give them."""
    return tuple([number for number in numbers_of(there) if bare_reason(there, later, number) is None])


def held_in(there, later):
    """The objects that are held, rising."""
    free = free_in(there, later)
    got = rounds(there, free)
    return tuple([number for number in numbers_of(there) if number in got or number not in free])


def steps_for(there, later, number):
    """The steps that a paper is made of for the object, None if it is not held."""
    reason = bare_reason(there, later, number)
    if reason is not None:
        return ((number, reason),)
    derivation = derive(there, free_in(there, later), number)
    if derivation is None:
        return None
    steps = []
    for step in derivation:
        # A derivation has each object once, so that a target has no step before this one.
        if step[1][0] == "deref":
            steps.append((step[0], bare_reason(there, later, step[0])))
        steps.append(step)
    return tuple(steps)


def are_steps_for(there, later, steps, last):
    """Whether anything is a paper of held objects the last step of which is for this object."""
    if type(steps) != tuple or len(steps) == 0:
        return False
    # Whether the objects of earlier steps are got.
    earlier = {}
    for step in steps:
        if not is_step(step) or not follows(there, later, step, earlier):
            return False
        number, reason = step
        earlier[number] = earlier.get(number, False) or not is_bare(reason)
    return steps[-1][0] == last


def is_step(step):
    """Whether anything is an object's number with a reason of a known kind."""
    if type(step) != tuple or len(step) != 2:
        return False
    number, reason = step
    return type(number) == int and (is_bare(reason) or is_reason(reason))


def is_bare(reason):
    """Whether anything has the shape of a reason of what is held, but not got."""
    if type(reason) != tuple or len(reason) == 0 or type(reason[0]) != str:
        return False
    if reason[0] == "kept":
        return len(reason) == 1
    return reason[0] == "later" and len(reason) == 2 and type(reason[1]) == int


def follows(there, later, step, earlier):
    """Whether the step may stand behind the earlier ones, of which it is told whether they are got."""
    number, reason = step
    if reason[0] == "kept":
        return number in kept_of(there)
    if reason[0] == "later":
        return reason[1] in later.get(number, [])
    if not all([earlier.get(other, False) for other in named(reason)]):
        return False
    if reason[0] == "deref" and number not in earlier:
        return False
    return found_by(there, by_number(there), reason) == number
