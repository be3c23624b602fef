"""Whether anything is a heap or a log."""

from weakcourt.heaps import registers_of
from weakcourt.observations import is_whole

# What stands behind the kind of a command: numbers of registers (r), and other whole numbers (n).
OPERANDS = {
    "record": "rn",
    "weak": "rr",
    "table": "r",
    "copy": "rr",
    "clear": "r",
    "read": "rrn",
    "write": "rnr",
    "deref": "rr",
    "put": "rrr",
    "remove": "rr",
    "lookup": "rrr",
    "watch": "rn",
    "drain": "",
    "end": "",
}
KINDS = ("record", "weak", "table")


def is_tuple_of(value, many):
    return type(value) == tuple and len(value) == many


def has_kind(value, kinds):
    """Whether anything is a tuple that begins with one of these texts."""
    return type(value) == tuple and len(value) > 0 and type(value[0]) == str and value[0] in kinds


def is_rising(row):
    """Whether anything is a rising tuple of whole numbers."""
    if type(row) != tuple or not all([is_whole(number) for number in row]):
        return False
    return list(row) == sorted(set(row))


def is_heap(value):
    """Whether anything is a heap."""
    if not has_kind(value, ("heap",)) or len(value) != 6:
        return False
    _, following, registers, kept, objects, watches = value
    if type(objects) != tuple or not all([is_object(thing) for thing in objects]):
        return False
    numbers = tuple([thing[1] for thing in objects])
    if not is_rising(numbers) or not is_whole(following) or following <= max(numbers, default=-1):
        return False
    return (
        are_references(registers, numbers)
        and is_rising(kept)
        and are_references(kept, numbers)
        and all([refers_among(thing, numbers) for thing in objects])
        and are_watches(watches, numbers)
    )


def is_object(thing):
    """Whether anything begins and ends as an object does; its number and what stands in it may be anything."""
    return has_kind(thing, KINDS) and len(thing) == 3


def is_reference(value, numbers):
    return value is None or is_number_of(value, numbers)


def is_number_of(value, numbers):
    return is_whole(value) and value in numbers


def are_references(row, numbers):
    return type(row) == tuple and all([is_reference(held, numbers) for held in row])


def refers_among(thing, numbers):
    """Whether what stands in the object fits its kind and refers to objects of these numbers."""
    kind, _, inside = thing
    if kind == "record":
        return are_references(inside, numbers)
    if kind == "weak":
        return is_reference(inside, numbers)
    if type(inside) != tuple or not all([is_entry(row, numbers) for row in inside]):
        return False
    return len({key for key, _ in inside}) == len(inside)


def is_entry(row, numbers):
    return is_tuple_of(row, 2) and is_number_of(row[0], numbers) and is_number_of(row[1], numbers)


def are_watches(watches, numbers):
    return type(watches) == tuple and all([is_watch(watch, numbers) for watch in watches])


def is_watch(watch, numbers):
    return is_tuple_of(watch, 2) and is_number_of(watch[0], numbers) and is_whole(watch[1])


def is_log(heap, value):
    """Whether anything is a log that begins at the heap."""
    return type(value) == tuple and all([is_observation(heap, row) for row in value])


def is_observation(heap, row):
    return is_tuple_of(row, 2) and is_command(row[0], len(registers_of(heap)))


def is_command(command, many):
    """Whether anything is a command of a program with so many registers."""
    if not has_kind(command, list(OPERANDS)) or len(command) != 1 + len(OPERANDS[command[0]]):
        return False
    rows = list(zip(command[1:], OPERANDS[command[0]]))
    return all([is_whole(value) and (kind == "n" or value < many) for value, kind in rows])
