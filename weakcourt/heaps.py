"""The parts of a heap, which is a tuple."""


def registers_of(heap):
    return heap[2]


def objects_of(heap):
    return heap[4]


def by_number(heap):
    """The objects of the heap under their numbers."""
    return {thing[1]: thing for thing in objects_of(heap)}


def first_free(numbers):
    """The least number that is greater than all of these."""
    return max(numbers, default=-1) + 1


def objects_among(references):
    """The references that are numbers of objects, in order, each as often as it stands."""
    return [number for number in references if number is not None]
