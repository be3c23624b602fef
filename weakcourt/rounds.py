"""In which round a program gets hold of each object that it can obtain."""

from weakcourt.heaps import by_number, objects_among, registers_of


def led_to(thing, got, condemned):
    """What the object leads to, beside the objects that have been got."""
    if thing[0] == "record":
        return objects_among(thing[2])
    if thing[0] == "table":
        return [value for key, value in thing[2] if key in got]
    if thing[2] is None or thing[2] in condemned:
        return []
    return [thing[2]]


def rounds(heap, condemned):
    """A dict from each object that is obtainable without the condemned ones to its round."""
    things = by_number(heap)
    gone = {number: True for number in condemned}
    got = {}
    depth = 0
    # A dict, as an object that is led to many times must be looked at only once.
    newest = {number: True for number in objects_among(registers_of(heap))}
    while newest:
        for number in newest:
            got[number] = depth
        # A table found long ago leads on when one of its keys is found, so tables are asked each time.
        asked = [number for number in got if number in newest or things[number][0] == "table"]
        newest = {
            found: True
            for number in asked
            for found in led_to(things[number], got, gone)
            if found not in got
        }
        depth += 1
    return got
