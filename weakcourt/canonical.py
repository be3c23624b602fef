"""Heaps with their reachable objects in the order in which marking finds them."""

from weakcourt.heaps import by_number, kept_of, objects_among, registers_of, watches_of


def marking(heap):
    """The reachable objects in marking order."""
    things = by_number(heap)
    order = list({number: True for number in objects_among(registers_of(heap))})
    scanned = {}
    while len(scanned) < len(order):
        number = order[len(scanned)]
        scanned[number] = True
        for found in found_by_scanning(things, number, scanned):
            if found not in order:
                order.append(found)
    return tuple(order)


def found_by_scanning(things, number, scanned):
    """What the object leads to as it is scanned, in order; scanned has it and those before it."""
    thing = things[number]
    found = objects_among(thing[2]) if thing[0] == "record" else []
    # Entries that need neither this table nor this key come again, but their values are in the order.
    for table in [things[other] for other in scanned if things[other][0] == "table"]:
        found.extend([value for key, value in table[2] if key in scanned])
    return found


def canonical(heap):
    """The canonical heap: the reachable objects alone, numbered by their places in marking order."""
    things = by_number(heap)
    order = marking(heap)
    places = {number: place for place, number in enumerate(order)}
    registers = tuple([places.get(held) for held in registers_of(heap)])
    kept = tuple(sorted([places[number] for number in kept_of(heap) if number in places]))
    objects = tuple([renumbered(things[number], places) for number in order])
    watches = [(places[number], token) for number, token in watches_of(heap) if number in places]
    return ("heap", len(order), registers, kept, objects, tuple(watches))


def renumbered(thing, places):
    """The object with all numbers replaced by their places, and without what has none."""
    kind, number, inside = thing
    if kind == "record":
        return (kind, places[number], tuple([places.get(held) for held in inside]))
    if kind == "weak":
        return (kind, places[number], places.get(inside))
    entries = [(places[key], places[value]) for key, value in inside if key in places]
    return (kind, places[number], tuple(entries))


def same(heap, other):
    """Whether the canonical heaps of both are the same."""
    return canonical(heap) == canonical(other)
