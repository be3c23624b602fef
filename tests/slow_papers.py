"""What is held, and the papers, made and judged step by step as DOC.md says, without the program."""

import random

from tests.machine import Machine
from tests.samples import all_steps, derive_slowly, numbers_in
from tests.search import all_whole, audit_slowly, play_slowly, reason_of, registers_slowly, same_kind


def later_slowly(heap, log, place):
    """The plain heap ahead of the place, and its objects that are in later registers, with the places."""
    there = play_slowly(heap, log[:place])
    rows = registers_slowly(heap, log)
    later = {number: [j for j in range(place, len(log)) if number in rows[j + 1]] for number in numbers_in(there)}
    return there, {number: places for number, places in later.items() if places}


def held_slowly(heap, log, place):
    """What is held by [e2], and what of it is got."""
    there, later = later_slowly(heap, log, place)
    held = set(there[3]) | set(later)
    got = set()
    size = None
    while size != len(got):
        size = len(got)
        for number, reason, names in all_steps(there, ()):
            if got.issuperset(names) and (reason[0] != "deref" or number in held):
                got.add(number)
                held.add(number)
    return tuple(sorted(held)), got


def bare_slowly(there, later, number):
    """The step of [e4] for an object that is kept or later, None for another one."""
    if number in there[3]:
        return (number, ("kept",))
    return (number, ("later", later[number][0])) if number in later else None


def steps_slowly(heap, log, place, number):
    """The steps of [e4], None if the object is not held."""
    there, later = later_slowly(heap, log, place)
    bare = bare_slowly(there, later, number)
    if bare is not None:
        return (bare,)
    others = [other for other in numbers_in(there) if bare_slowly(there, later, other) is None]
    steps = []
    for step, reason in derive_slowly(there, others, number) or ():
        if reason[0] == "deref" and step not in [earlier[0] for earlier in steps]:
            steps.append(bare_slowly(there, later, step))
        steps.append((step, reason))
    return tuple(steps) or None


def result_slowly(heap, log, place):
    """Whether the result is not what the plain heap gives, by [e3]."""
    command, result = log[place]
    there = play_slowly(heap, log[:place])
    if command == ("drain",):
        return type(result) is not tuple or not all_whole(result)
    if reason_of(there, command) is not None:
        return True
    told = Machine(("state", there, ())).do(command)
    return not same_kind(told, result) and not (command[0] == "deref" and result is None)


def drained_slowly(log):
    """The tokens that were drained, each as often as it was."""
    told = [result for command, result in log if command == ("drain",)]
    return [token for result in told if type(result) is tuple and all_whole(result) for token in result]


def target_slowly(heap, log, place):
    """The target of a deref that gave None, None if the observation is something else."""
    command, result = log[place]
    there = play_slowly(heap, log[:place])
    if command[0] != "deref" or result is not None or reason_of(there, command) is not None:
        return None
    return Machine(("state", there, ())).do(command)


def papers_slowly(heap, log, place):
    """The papers for this place, by [e3] and [e4], in the order of the interface."""
    papers = []
    there = play_slowly(heap, log[:place])
    if result_slowly(heap, log, place):
        papers.append(("result", place))
    target = target_slowly(heap, log, place)
    if target is not None and steps_slowly(heap, log, place, target):
        papers.append(("held", place, steps_slowly(heap, log, place, target)))
    if log[place][0] == ("drain",) and not result_slowly(heap, log, place):
        counted = drained_slowly(log[:place + 1])
        for token in sorted(set(counted)):
            all_of_it = [(w, number) for w, (number, mark) in enumerate(there[5]) if mark == token]
            rows = [(w, steps_slowly(heap, log, place, number)) for w, number in all_of_it]
            rows = tuple(row for row in rows if row[1])
            if len(all_of_it) - len(rows) < counted.count(token):
                papers.append(("tokens", place, token, rows))
    return papers


def accuse_slowly(heap, log, verdict=None):
    """The paper of the interface; the verdict is searched for if it is not given."""
    verdict = verdict or audit_slowly(heap, log)
    if verdict[0] == "explained":
        return None
    cut = log[:verdict[1] + 1]
    return [paper for place in range(len(cut)) for paper in papers_slowly(heap, cut, place)][0]


def are_right_steps(heap, log, place, steps, last):
    """Whether steps of the right shapes are a paper of held objects for the object, by [e2]."""
    there, later = later_slowly(heap, log, place)
    allowed = {(number, reason): names for number, reason, names in all_steps(there, ())}
    for at, (number, reason) in enumerate(steps):
        found = {step[0] for step in steps[:at]}
        got = {step[0] for step in steps[:at] if step[1][0] not in ("kept", "later")}
        if reason[0] == "kept":
            right = number in there[3]
        elif reason[0] == "later":
            right = reason[1] in later.get(number, ())
        else:
            right = (number, reason) in allowed and got.issuperset(allowed[number, reason])
            right = right and (reason[0] != "deref" or number in found)
        if not right:
            return False
    return bool(steps) and steps[-1][0] == last


def judge_slowly(heap, log, paper):
    """Whether a paper of the right shape is right, by [e3]."""
    kind, place, *rest = paper
    if not 0 <= place < len(log):
        return False
    if kind == "result":
        return result_slowly(heap, log, place)
    if kind == "held":
        target = target_slowly(heap, log, place)
        return target is not None and are_right_steps(heap, log, place, rest[0], target)
    token, papers = rest
    if log[place][0] != ("drain",) or result_slowly(heap, log, place):
        return False
    watches = play_slowly(heap, log[:place])[5]
    for watch, steps in papers:
        if not 0 <= watch < len(watches) or watches[watch][1] != token:
            return False
        if not are_right_steps(heap, log, place, steps, watches[watch][0]):
            return False
    many = [mark for _, mark in watches].count(token)
    different = len({watch for watch, _ in papers}) == len(papers)
    return different and many - len(papers) < drained_slowly(log[:place + 1]).count(token)


def chain_heap(seed):
    """A heap with a weak reference in register 0 to an object that a chain of others leads to, and a log.

    The weak reference is seen as cleared at first; what is read later holds what other weak
    references of the chain lead to.
    """
    chance = random.Random(seed)
    many = chance.randrange(2, 6)
    numbers = chance.sample(range(40), many + 2)
    weak, spare, *chain = numbers
    objects = [("weak", weak, chain[-1]), ("record", spare, ())]
    kept = []
    later = []
    for place, number in enumerate(chain):
        following = chain[place + 1] if place + 1 < many else spare
        kind = chance.choice(("record", "table", "weak", "weak"))
        if kind == "record":
            fields = [chance.choice([None, spare, *chain]) for _ in range(chance.randrange(3))]
            objects.append(("record", number, (*fields, following)))
        elif kind == "table":
            keys = {chance.choice(chain[:place + 1]): following, spare: chance.choice(chain)}
            objects.append(("table", number, tuple(keys.items())))
        else:
            objects.append(("weak", number, following))
            if chance.random() < 0.9:
                chance.choice((kept, later, later)).append(following)
    registers = (weak, chance.choice([None, spare, chain[0]]), chain[0], None)
    watches = tuple((chance.choice(chain), chance.randrange(3)) for _ in range(4))
    objects = tuple(sorted(objects, key=lambda thing: thing[1]))
    heap = ("heap", 40, registers, tuple(sorted(set(kept))), objects, watches)
    log = [(("deref", 3, 0), None), (("drain",), tuple(chance.choices(range(3), k=2)))]
    chance.shuffle(log)
    return heap, (*log, *[(("copy", 3, 3), number) for number in later])


def other_reason(chance, numbers):
    kind = chance.choice(("kept", "later", "register", "field", "entry", "deref"))
    many = {"kept": 0, "field": 2, "entry": 2}.get(kind, 1)
    return (kind, *[chance.choice([*numbers, 0, 1, 2, 3]) for _ in range(many)])


def changed_steps(chance, heap, steps):
    """The steps with one left out, added, exchanged, or with another number or reason."""
    numbers = [*numbers_in(heap), 99]
    place = chance.randrange(len(steps))
    step = steps[place]
    other = (chance.choice(numbers), other_reason(chance, numbers))
    bare = (step[0], chance.choice([("kept",), ("later", 0), ("later", 1), ("later", 2)]))
    before, behind = steps[:place], steps[place + 1:]
    return chance.choice((
        before + behind,
        before + (step, step) + behind,
        before + (other, step) + behind,
        before + (bare, step) + behind,
        before + (other,) + behind,
        before + (bare,) + behind,
        before + ((step[0], other[1]),) + behind,
        before + ((other[0], step[1]),) + behind,
        before + behind[:1] + (step,) + behind[1:],
        steps + (other,),
    ))


def changed_paper(chance, heap, paper):
    """The paper with one thing in it changed."""
    kind, place, *rest = paper
    if chance.random() < 0.1 or kind == "result":
        return (kind, chance.choice([place - 1, place + 1, 0, 99]), *rest)
    if kind == "held":
        return (kind, place, changed_steps(chance, heap, rest[0]))
    token, papers = rest
    if not papers or chance.random() < 0.1:
        return (kind, place, chance.choice([token + 1, token - 1, 0]), papers)
    at = chance.randrange(len(papers))
    watch, steps = papers[at]
    before, behind = papers[:at], papers[at + 1:]
    return (kind, place, token, chance.choice((
        before + behind,
        before + (papers[at], papers[at]) + behind,
        before + ((chance.choice([watch + 1, watch - 1, 0, 1, 2, 3]), steps),) + behind,
        before + ((watch, changed_steps(chance, heap, steps)),) + behind,
        before + ((watch, changed_steps(chance, heap, steps)),) + behind,
        papers[::-1],
    )))
