"""Heaps for the tests, and what DOC.md says of them worked out step by step, without the program."""

import itertools
import random


def heap_of(registers, *objects, next=None, kept=(), watches=()):
    """A heap; next is the least one if it is left out."""
    least = max([thing[1] for thing in objects], default=-1) + 1
    return ("heap", least if next is None else next, registers, kept, objects, watches)


def random_reference(chance, numbers):
    return chance.choice(numbers) if numbers and chance.random() < 0.75 else None


def random_object(chance, number, numbers):
    kind = chance.choice(("record", "weak", "table"))
    if kind == "record":
        fields = tuple(random_reference(chance, numbers) for _ in range(chance.randrange(4)))
        return (kind, number, fields)
    if kind == "weak":
        return (kind, number, random_reference(chance, numbers))
    keys = chance.sample(numbers, min(len(numbers), chance.randrange(5)))
    return (kind, number, tuple((key, chance.choice(numbers)) for key in keys))


def random_heap(seed, most=10):
    """A heap of at most so many objects."""
    chance = random.Random(seed)
    numbers = sorted(chance.sample(range(30), chance.randrange(most + 1)))
    objects = tuple(random_object(chance, number, numbers) for number in numbers)
    registers = tuple(random_reference(chance, numbers) for _ in range(chance.randrange(1, 4)))
    kept = tuple(number for number in numbers if chance.random() < 0.2)
    marked = chance.choices(numbers, k=chance.randrange(4)) if numbers else []
    watches = tuple((number, chance.randrange(5)) for number in marked)
    following = max(numbers, default=-1) + 1 + chance.choice((0, 0, 3))
    return ("heap", following, registers, kept, objects, watches)


def random_set(seed, heap):
    chance = random.Random(seed)
    return tuple(thing[1] for thing in heap[4] if chance.random() < 0.4)


def numbers_in(heap):
    return tuple(thing[1] for thing in heap[4])


def subsets(numbers):
    """All subsets of the rising numbers, as rising tuples."""
    return [part for size in range(len(numbers) + 1) for part in itertools.combinations(numbers, size)]


def all_steps(heap, condemned):
    """All steps (object, reason) that [c12] lets stand, in the order of [a1], with what they name."""
    steps = [(held, ("register", i), ()) for i, held in enumerate(heap[2]) if held is not None]
    for kind, number, inside in heap[4]:
        if kind == "record":
            for i, held in enumerate(inside):
                if held is not None:
                    steps.append((held, ("field", number, i), (number,)))
        elif kind == "table":
            for key, value in inside:
                steps.append((value, ("entry", number, key), (number, key)))
        elif inside is not None and inside not in condemned:
            steps.append((inside, ("deref", number), (number,)))
    return steps


def rounds_slowly(heap, condemned):
    """The rounds of [a1]: of each object the least over all steps that give it."""
    rounds = {}
    changed = True
    while changed:
        changed = False
        for number, reason, names in all_steps(heap, condemned):
            if any(name not in rounds for name in names):
                continue
            depth = 1 + max([rounds[name] for name in names]) if names else 0
            if depth < rounds.get(number, depth + 1):
                rounds[number] = depth
                changed = True
    return rounds


def derive_slowly(heap, condemned, number):
    """The derivation of [a2]."""
    rounds = rounds_slowly(heap, condemned)
    if number not in rounds:
        return None
    wanted = {number}
    chosen = {}
    while wanted - set(chosen):
        for asked in wanted - set(chosen):
            fitting = [
                (reason, names)
                for found, reason, names in all_steps(heap, condemned)
                if found == asked and all(name in rounds and rounds[name] < rounds[asked] for name in names)
            ]
            if rounds[asked] == 0:
                fitting = [row for row in fitting if row[0][0] == "register"]
            chosen[asked] = fitting[0][0]
            wanted = wanted | set(fitting[0][1])
    return tuple((step, chosen[step]) for step in sorted(chosen, key=lambda step: (rounds[step], step)))


def is_condemnable_slowly(heap, numbers):
    """Whether the set is condemnable, by [c8]."""
    got = rounds_slowly(heap, numbers)
    return not any(number in heap[3] for number in numbers) and not any(number in got for number in numbers)


def all_condemnable(heap):
    return [part for part in subsets(numbers_in(heap)) if is_condemnable_slowly(heap, part)]


def reachable_slowly(heap, left_out=None):
    """What is reachable by steps of [c12] that have nothing to do with the object that is left out."""
    steps = [
        (found, names)
        for found, _, names in all_steps(heap, numbers_in(heap))
        if left_out not in (found, *names)
    ]
    got = set()
    size = None
    while size != len(got):
        size = len(got)
        got |= {found for found, names in steps if got.issuperset(names)}
    return got


def marking_slowly(heap):
    """The marking order of [k4]."""
    things = {thing[1]: thing for thing in heap[4]}
    order = []
    waiting = list(heap[2])
    scanned = []
    while True:
        for number in waiting:
            if number is not None and number not in order:
                order.append(number)
        if len(scanned) == len(order):
            return tuple(order)
        now = order[len(scanned)]
        scanned.append(now)
        waiting = list(things[now][2]) if things[now][0] == "record" else []
        for table in scanned:
            if things[table][0] == "table":
                for key, value in things[table][2]:
                    if key in scanned and (table == now or key == now):
                        waiting.append(value)


def numbered_otherwise(heap, seed):
    """The heap with other numbers for its objects, which stand in another order then."""
    chance = random.Random(seed)
    word, _, registers, kept, objects, watches = heap
    numbers = [thing[1] for thing in objects]
    others = dict(zip(numbers, chance.sample(range(100), len(numbers))))
    others[None] = None
    changed = []
    for kind, number, inside in objects:
        if kind == "record":
            inside = tuple(others[held] for held in inside)
        elif kind == "weak":
            inside = others[inside]
        else:
            inside = tuple((others[key], others[value]) for key, value in inside)
        changed.append((kind, others[number], inside))
    return (
        word,
        100 + chance.randrange(5),
        tuple(others[held] for held in registers),
        tuple(sorted(others[number] for number in kept)),
        tuple(sorted(changed, key=lambda thing: thing[1])),
        tuple((others[number], token) for number, token in watches),
    )


class Touchy:
    """What cannot be compared, hashed or tested."""

    def __eq__(self, other):
        raise RuntimeError("compared")

    def __hash__(self):
        raise RuntimeError("hashed")

    def __bool__(self):
        raise RuntimeError("tested")


# What is no tuple of anything that the program knows.
JUNK = (
    None, True, False, 0, 1, -1, 1.5, "", "heap", b"", [], [()], {}, {1: 2}, set(), frozenset(), range(2), object(),
    Touchy(), (None,), (True,), (1,), ("",), ("heap",), ((),), (Touchy(),), ((Touchy(),),), len, int,
)

WRONG_HEAPS = (
    ("Heap", 0, (None,), (), (), ()),
    ("heap", 0, (None,), (), ()),
    ("heap", 0, (None,), (), (), (), ()),
    ["heap", 0, (None,), (), (), ()],
    ("heap", None, (None,), (), (), ()),
    ("heap", -1, (None,), (), (), ()),
    ("heap", 0, [None], (), (), ()),
    ("heap", 0, (0,), (), (), ()),
    ("heap", 1, (False,), (), (("record", 0, ()),), ()),
    ("heap", 0, (Touchy(),), (), (), ()),
    ("heap", 0, (None,), (0,), (), ()),
    ("heap", 2, (None,), (1, 0), (("record", 0, ()), ("record", 1, ())), ()),
    ("heap", 2, (None,), [0], (("record", 0, ()), ("record", 1, ())), ()),
    ("heap", 2, (None,), (None,), (("record", 0, ()), ("record", 1, ())), ()),
    ("heap", 1, (None,), (), (("record", 0, ()), ("record", 1, ())), ()),
    ("heap", 2, (None,), (), [("record", 0, ())], ()),
    ("heap", 2, (None,), (), (["record", 0, ()],), ()),
    ("heap", 2, (None,), (), (("record", 1, ()), ("record", 0, ())), ()),
    ("heap", 2, (None,), (), (("record", 1, ()), ("record", 1, ())), ()),
    ("heap", 2, (None,), (), (("array", 0, ()),), ()),
    ("heap", 2, (None,), (), (("record", 0),), ()),
    ("heap", 2, (None,), (), (("record", -1, ()),), ()),
    ("heap", 2, (None,), (), (("record", True, ()),), ()),
    ("heap", 2, (None,), (), (("record", 0, None),), ()),
    ("heap", 2, (None,), (), (("record", 0, (1,)),), ()),
    ("heap", 2, (None,), (), (("weak", 0, 1),), ()),
    ("heap", 2, (None,), (), (("weak", 0, (0,)),), ()),
    ("heap", 2, (None,), (), (("table", 0, None),), ()),
    ("heap", 2, (None,), (), (("table", 0, (0,)),), ()),
    ("heap", 2, (None,), (), (("table", 0, ((0,),)),), ()),
    ("heap", 2, (None,), (), (("table", 0, ((0, 1),)),), ()),
    ("heap", 2, (None,), (), (("table", 0, ((None, 0),)),), ()),
    ("heap", 2, (None,), (), (("table", 0, ((0, None),)),), ()),
    ("heap", 2, (None,), (), (("table", 0, ((0, 0), (0, 0))),), ()),
    ("heap", 2, (None,), (), (("record", 0, ()),), None),
    ("heap", 2, (None,), (), (("record", 0, ()),), ((1, 0),)),
    ("heap", 2, (None,), (), (("record", 0, ()),), ((None, 0),)),
    ("heap", 2, (None,), (), (("record", 0, ()),), ((0, None),)),
    ("heap", 2, (None,), (), (("record", 0, ()),), ((0, -1),)),
    ("heap", 2, (None,), (), (("record", 0, ()),), ((0,),)),
)
