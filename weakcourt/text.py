"""The text of a heap: one line for each of its parts, objects and watches."""

from weakcourt.errors import TextFault
from weakcourt.heaps import first_free, objects_among

ONCE = ("next", "registers", "kept")
OBJECTS = ("record", "weak", "table")


def format_heap(heap):
    """The text of the heap."""
    _, following, registers, kept, objects, watches = heap
    lines = []
    if following != first_free([thing[1] for thing in objects]):
        lines.append(f"next {following}")
    lines.append(joined("registers", [shown(held) for held in registers]))
    if kept:
        lines.append(joined("kept", [str(number) for number in kept]))
    lines.extend([object_line(thing) for thing in objects])
    lines.extend([f"watch {number} {token}" for number, token in watches])
    return "".join([f"{line}\n" for line in lines])


def joined(head, words):
    return " ".join([head, *words])


def shown(reference):
    return "-" if reference is None else str(reference)


def object_line(thing):
    kind, number, inside = thing
    head = f"{number} {kind}"
    if kind == "record":
        return joined(head, [shown(held) for held in inside])
    if kind == "weak":
        return joined(head, [shown(inside)])
    return joined(head, [f"{key}:{value}" for key, value in inside])


def parse_heap(text):
    """The heap that the text tells; raises TextFault for the first fault in it."""
    # Not splitlines, which also parts lines at signs that are no newlines.
    lines = list(enumerate(text.split("\n"), start=1))
    rows = [(place, row_of(line)) for place, line in lines if line and not line.startswith("#")]
    numbers = [row[1] for _, row in rows if row is not None and row[0] in OBJECTS]
    known = {number: True for number in numbers}
    before = {}
    for place, row in rows:
        reason = fault_of(row, before, known)
        if reason is not None:
            raise TextFault(place, reason)
        before["object" if row[0] in OBJECTS else row[0]] = row
    if "registers" not in before:
        raise TextFault(0, "no registers")
    return heap_of([row for _, row in rows])


def heap_of(rows):
    """The heap of the rows, which have no fault."""
    objects = tuple([row for row in rows if row[0] in OBJECTS])
    parts = {row[0]: row[1] for row in rows if row[0] in ONCE}
    following = parts.get("next", first_free([thing[1] for thing in objects]))
    watches = tuple([row[1] for row in rows if row[0] == "watch"])
    return ("heap", following, parts["registers"], parts.get("kept", ()), objects, watches)


def row_of(line):
    """The line as a tuple, an object or (kind, what it tells), None if there is no such line."""
    words = line.split(" ")
    head = words[0]
    if is_number(head):
        return object_row(int(head), words[1:])
    rest = words[1:]
    if head == "registers" and rest and all([is_reference(word) for word in rest]):
        return (head, tuple([reference(word) for word in rest]))
    if not rest or not all([is_number(word) for word in rest]):
        return None
    numbers = tuple([int(word) for word in rest])
    if head == "next" and len(numbers) == 1:
        return (head, numbers[0])
    if head == "kept" or (head == "watch" and len(numbers) == 2):
        return (head, numbers)
    return None


def object_row(number, words):
    """The object that the words behind its number tell, None if they tell none."""
    if not words:
        return None
    kind = words[0]
    rest = words[1:]
    if kind == "table":
        if all([is_entry(word) for word in rest]):
            return (kind, number, tuple([entry(word) for word in rest]))
        return None
    if not all([is_reference(word) for word in rest]):
        return None
    references = tuple([reference(word) for word in rest])
    if kind == "record":
        return (kind, number, references)
    if kind == "weak" and len(references) == 1:
        return (kind, number, references[0])
    return None


def is_number(word):
    # Without isascii the digits of other scripts would count.
    return word.isascii() and word.isdigit() and (word == "0" or not word.startswith("0"))


def is_reference(word):
    return word == "-" or is_number(word)


def reference(word):
    return None if word == "-" else int(word)


def is_entry(word):
    parts = word.split(":")
    return len(parts) == 2 and is_number(parts[0]) and is_number(parts[1])


def entry(word):
    key, value = word.split(":")
    return (int(key), int(value))


def fault_of(row, before, known):
    """The first reason why the row is a fault, None if it is none.

    before has the last row of each kind ahead of it, all kinds of objects as one; known has the
    numbers of all objects of the text.
    """
    if row is None:
        return "no such line"
    if row[0] in ONCE and row[0] in before:
        return "stands twice"
    if row[0] == "next" and row[1] < first_free(known):
        return "next too small"
    if not rises(row, before):
        return "does not rise"
    if row[0] == "table" and has_twice([key for key, _ in row[2]]):
        return "key stands twice"
    unknown = [number for number in objects_in(row) if number not in known]
    return f"unknown object {unknown[0]}" if unknown else None


def rises(row, before):
    if row[0] == "kept":
        return list(row[1]) == sorted(set(row[1]))
    if row[0] in OBJECTS and "object" in before:
        return row[1] > before["object"][1]
    return True


def has_twice(numbers):
    return len(set(numbers)) < len(numbers)


def objects_in(row):
    """The numbers of objects that the row refers to, in the order of its words."""
    if row[0] == "next":
        return []
    if row[0] == "registers" or row[0] == "kept":
        return objects_among(row[1])
    if row[0] == "watch":
        return [row[1][0]]
    if row[0] == "table":
        return [number for pair in row[2] for number in pair]
    return objects_among(row[2] if row[0] == "record" else (row[2],))
