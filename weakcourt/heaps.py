"""The parts of a heap, which is a tuple, and heaps that differ from it in one thing."""


def following_of(heap):
    """The number of the next new object."""
    return heap[1]


def registers_of(heap):
    return heap[2]


def kept_of(heap):
    return heap[3]


def objects_of(heap):
    return heap[4]


def watches_of(heap):
    return heap[5]


def numbers_of(heap):
    """The numbers of all objects of the heap, rising."""
    return tuple([thing[1] for thing in objects_of(heap)])


def by_number(heap):
    """The objects of the heap under their numbers."""
    return {thing[1]: thing for thing in objects_of(heap)}


def first_free(numbers):
    """The least number that is greater than all of these."""
    return max(numbers, default=-1) + 1


def objects_among(references):
    """The references that are numbers of objects, in order, each as often as it stands."""
    return [number for number in references if number is not None]


def without(thing, gone):
    """The object without what refers to the objects that are gone."""
    kind, number, inside = thing
    if kind == "record":
        return (kind, number, tuple([None if held in gone else held for held in inside]))
    if kind == "weak":
        return (kind, number, None if inside in gone else inside)
    entries = [(key, value) for key, value in inside if key not in gone and value not in gone]
    return (kind, number, tuple(entries))


def dropping(heap, gone):
    """The heap without the objects that are gone and without what refers to them."""
    word, following, registers, kept, objects, watches = heap
    held = tuple([None if number in gone else number for number in registers])
    left = tuple([number for number in kept if number not in gone])
    staying = tuple([without(thing, gone) for thing in objects if thing[1] not in gone])
    watched = tuple([(number, token) for number, token in watches if number not in gone])
    return (word, following, held, left, staying, watched)


def holding(heap, place, reference):
    """The heap with the reference in this register."""
    word, following, registers, kept, objects, watches = heap
    held = registers[:place] + (reference,) + registers[place + 1:]
    return (word, following, held, kept, objects, watches)


def keeping(heap, number):
    """The heap with this object kept, too."""
    word, following, registers, kept, objects, watches = heap
    return (word, following, registers, tuple(sorted(set([*kept, number]))), objects, watches)


def keeping_nothing(heap):
    word, following, registers, _, objects, watches = heap
    return (word, following, registers, (), objects, watches)


def adding(heap, kind, inside):
    """The heap with a new object behind the others."""
    word, following, registers, kept, objects, watches = heap
    thing = (kind, following, inside)
    return (word, following + 1, registers, kept, (*objects, thing), watches)


def replacing(heap, thing):
    """The heap with this object in the place of the one of its number."""
    word, following, registers, kept, objects, watches = heap
    changed = tuple([thing if other[1] == thing[1] else other for other in objects])
    return (word, following, registers, kept, changed, watches)


def watching(heap, number, token):
    """The heap with a new watch behind the others."""
    word, following, registers, kept, objects, watches = heap
    return (word, following, registers, kept, objects, (*watches, (number, token)))
