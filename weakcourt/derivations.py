"""Derivations: tuples of steps that show how a program gets hold of an object."""

from weakcourt.heaps import by_number, registers_of
from weakcourt.rounds import rounds

LENGTHS = {"register": 2, "field": 3, "entry": 3, "deref": 2}


def named(reason):
    """The objects that the reason names."""
    if reason[0] == "register":
        return ()
    if reason[0] == "entry":
        return (reason[1], reason[2])
    return (reason[1],)


def derive(heap, condemned, number):
    """The derivation of the object, None if it is not obtainable without the condemned ones."""
    depths = rounds(heap, condemned)
    if number not in depths:
        return None
    things = by_number(heap)
    reasons = {}
    waiting = [number]
    while waiting:
        asked = waiting.pop()
        reasons[asked] = best_reason(heap, things, depths, condemned, asked)
        waiting.extend([other for other in named(reasons[asked]) if other not in reasons])
    ordered = sorted(reasons, key=lambda step: (depths[step], step))
    return tuple([(step, reasons[step]) for step in ordered])


def best_reason(heap, things, depths, condemned, number):
    """The reason of an obtainable object: from a register, or else from the objects of lower rounds."""
    if depths[number] == 0:
        return ("register", registers_of(heap).index(number))
    lower = {other: True for other in sorted(depths) if depths[other] < depths[number]}
    reasons = [reason_from(things[other], lower, condemned, number) for other in lower]
    return [reason for reason in reasons if reason is not None][0]


def reason_from(thing, lower, condemned, number):
    """The first reason by which the object follows from this one and the lower ones, or None."""
    if thing[0] == "record":
        return ("field", thing[1], thing[2].index(number)) if number in thing[2] else None
    if thing[0] == "table":
        keys = [key for key, value in thing[2] if value == number and key in lower]
        return ("entry", thing[1], keys[0]) if keys else None
    if thing[2] == number and number not in condemned:
        return ("deref", thing[1])
    return None


def check_derivation(heap, condemned, steps):
    """Whether the steps, which may be anything, are a derivation for the condemned objects."""
    if type(steps) != tuple or len(steps) == 0:
        return False
    things = by_number(heap)
    earlier = {}
    for step in steps:
        if not has_shape(step):
            return False
        number, reason = step
        if not all([other in earlier for other in named(reason)]):
            return False
        if found_by(heap, things, reason) != number:
            return False
        if reason[0] == "deref" and number in condemned:
            return False
        earlier[number] = True
    return True


def has_shape(step):
    """Whether anything is an object's number with a reason of a known kind."""
    if type(step) != tuple or len(step) != 2:
        return False
    number, reason = step
    return type(number) == int and is_reason(reason)


def is_reason(reason):
    # Kinds are asked before values are compared: what is no text or number may fail when it is compared.
    if type(reason) != tuple or len(reason) == 0:
        return False
    kind = reason[0]
    if type(kind) != str or LENGTHS.get(kind) != len(reason):
        return False
    return all([type(part) == int for part in reason[1:]])


def found_by(heap, things, reason):
    """What stands where the reason points to; None if nothing does. What it names is there."""
    if reason[0] == "register":
        return at_index(registers_of(heap), reason[1])
    thing = things[reason[1]]
    if reason[0] == "field" and thing[0] == "record":
        return at_index(thing[2], reason[2])
    if reason[0] == "entry" and thing[0] == "table":
        return dict(thing[2]).get(reason[2])
    if reason[0] == "deref" and thing[0] == "weak":
        return thing[2]
    return None


def at_index(row, index):
    """The item of this index, None if there is none; an index below 0 does not count from the end."""
    return row[index] if 0 <= index < len(row) else None


def compile_derivation(heap, steps):
    """The commands that load the objects of the steps into the registers behind those of the heap."""
    commands = []
    places = {}
    for place, (number, reason) in enumerate(steps, start=len(registers_of(heap))):
        commands.append(loading(place, reason, places))
        places.setdefault(number, place)
    return tuple(commands)


def loading(place, reason, places):
    """The command that loads what the reason gives, where places tells the registers of what it names."""
    if reason[0] == "register":
        return ("copy", place, reason[1])
    if reason[0] == "field":
        return ("read", place, places[reason[1]], reason[2])
    if reason[0] == "entry":
        return ("lookup", place, places[reason[1]], places[reason[2]])
    return ("deref", place, places[reason[1]])


def with_registers(heap, many):
    """The heap with so many empty registers more, behind its own."""
    word, following, registers, kept, objects, watches = heap
    return (word, following, registers + (None,) * many, kept, objects, watches)
