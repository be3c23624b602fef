"""Logs for the tests, and all sets that explain them, found by trying all, mostly without the program."""

import functools
import random
from collections import Counter

from tests.machine import Failure, LOADING, Machine, random_command
from tests.samples import all_condemnable, numbers_in
from weakcourt.runtime import Runtime


def condemn_slowly(state, gone):
    """The state behind condemning these, by [c9]."""
    word, (kind, following, registers, kept, objects, watches), pending = state
    staying = []
    for thing in objects:
        if thing[1] in gone:
            continue
        if thing[0] == "record":
            inside = tuple(None if held in gone else held for held in thing[2])
        elif thing[0] == "weak":
            inside = None if thing[2] in gone else thing[2]
        else:
            inside = tuple(pair for pair in thing[2] if not set(pair) & set(gone))
        staying.append((thing[0], thing[1], inside))
    tokens = tuple(token for number, token in watches if number in gone)
    left = tuple(watch for watch in watches if watch[0] not in gone)
    return (word, (kind, following, registers, kept, tuple(staying), left), pending + tokens)


def same_kind(told, result):
    """Whether both are the same, where a truth value is no number."""
    return type(told) is type(result) and told == result


def all_whole(values):
    return all(type(value) is int and value >= 0 for value in values)


def observe_slowly(state, observation):
    """The state behind the observation, None if it cannot be made there, by [c10]."""
    command, result = observation
    if command == ("drain",):
        if type(result) is not tuple or not all_whole(result):
            return None
        left = Counter(state[2])
        left.subtract(result)
        return (*state[:2], tuple(sorted(left.elements()))) if min(left.values(), default=0) >= 0 else None
    machine = Machine(state)
    try:
        told = machine.do(command)
    except Failure:
        return None
    return machine.state() if same_kind(told, result) else None


@functools.lru_cache(maxsize=4096)
def condemnable_in(heap):
    return tuple(all_condemnable(heap))


def explains_slowly(heap, log, sets):
    """Whether the sets explain the log, by [c10]."""
    if len(sets) != len(log):
        return False
    state = ("state", heap, ())
    for numbers, observation in zip(sets, log):
        if numbers not in condemnable_in(state[1]):
            return False
        state = observe_slowly(condemn_slowly(state, numbers), observation)
        if state is None:
            return False
    return True


def explanations(heap, log):
    """All tuples of sets that explain the log, with the state behind it."""
    found = [((), ("state", heap, ()))]
    for observation in log:
        found = [
            (sets + (numbers,), behind)
            for sets, state in found
            for numbers in condemnable_in(state[1])
            for behind in [observe_slowly(condemn_slowly(state, numbers), observation)]
            if behind is not None
        ]
    return found


def is_explainable(heap, log):
    return bool(explanations(heap, log))


def everything(sets):
    return {number for numbers in sets for number in numbers}


def schedule_slowly(heap, log):
    """Of an explainable log: ahead of each observation what any explanation has condemned by then."""
    found = explanations(heap, log)
    before = set()
    told = []
    for place in range(len(log)):
        by_then = set().union(*[everything(sets[:place + 1]) for sets, _ in found])
        told.append(tuple(sorted(by_then - before)))
        before = by_then
    return tuple(told)


def audit_slowly(heap, log):
    for place in range(len(log)):
        if not is_explainable(heap, log[:place + 1]):
            return ("unexplained", place)
    return ("explained", schedule_slowly(heap, log))


def registers_slowly(heap, log):
    """The registers of [c11]."""
    rows = [list(heap[2])]
    for command, result in log:
        row = list(rows[-1])
        if command[0] in LOADING:
            row[command[1]] = result if all_whole([result]) and command[0] != "clear" else None
        rows.append(row)
    return tuple(tuple(row) for row in rows)


def candidates_slowly(heap, log, place):
    numbers = set(numbers_in(heap))
    for command, result in log[:place]:
        if command[0] in ("record", "weak", "table") and all_whole([result]):
            numbers.add(result)
    for row in registers_slowly(heap, log)[place:]:
        numbers -= set(row)
    return tuple(sorted(numbers))


def late_slowly(heap, log):
    """The sets of [l2], of an explainable log."""
    state = ("state", heap, ())
    sets = []
    for place, observation in enumerate(log):
        numbers = ()
        if observe_slowly(state, observation) is None:
            free = set(candidates_slowly(heap, log, place))
            fitting = [part for part in condemnable_in(state[1]) if set(part) <= free]
            numbers = tuple(sorted(everything(fitting)))
        sets.append(numbers)
        state = observe_slowly(condemn_slowly(state, numbers), observation)
    return tuple(sets)


def certain_slowly(heap, log):
    return tuple(sorted(set.intersection(*[everything(sets) for sets, _ in explanations(heap, log)])))


def possible_slowly(heap, log):
    found = set()
    for sets, state in explanations(heap, log):
        for numbers in condemnable_in(state[1]):
            found |= everything(sets) | set(numbers)
    return tuple(sorted(found))


def could_see_slowly(heap, log, command):
    """The results of a command but drain with which the log stays explainable, a target before None."""
    there = play_slowly(heap, log)
    if reason_of(there, command) is not None:
        return ()
    results = [*numbers_in(there), there[1], 99, None, True, False, ()]
    states = [condemn_slowly(state, part) for _, state in explanations(heap, log) for part in condemnable_in(state[1])]
    return tuple(
        result for result in results if any(observe_slowly(state, (command, result)) is not None for state in states)
    )


def most_slowly(heap, log):
    """The tokens that can come, each as often as some explanation lets it."""
    most = Counter()
    for _, state in explanations(heap, log):
        for part in condemnable_in(state[1]):
            most |= Counter(condemn_slowly(state, part)[2])
    return tuple(sorted(most.elements()))


def reason_of(heap, command):
    """Why the command fails in the heap, None if it does not."""
    try:
        Machine(("state", heap, ())).do(command)
    except Failure as failure:
        return str(failure)
    return None


def play_slowly(heap, log):
    """The plain heap of [e1] behind the log."""
    for command, result in log:
        machine = Machine(("state", heap, ()))
        before = set(machine.kept)
        try:
            machine.do(command)
            failed = False
        except Failure:
            failed = True
        seen = result if all_whole([result]) and result in machine.kinds else None
        if command[0] == "deref" and not failed:
            machine.kept = before | ({seen} - {None})
        if command[0] in LOADING:
            machine.registers[command[1]] = None if command[0] == "clear" else seen
        heap = machine.state()[1]
    return heap


def likely_command(chance, machine):
    """A command as others, but more often one that reads a weak reference, drains or ends the job."""
    many = len(machine.registers)
    weak = [place for place in range(many) if machine.kinds.get(machine.registers[place]) == "weak"]
    if weak and chance.random() < 0.45:
        # Mostly what is loaded does not take the place of a weak reference.
        to = chance.choice([place for place in range(many) if place not in weak] or weak)
        return ("deref", to, chance.choice(weak))
    if chance.random() < 0.3:
        return chance.choice([("drain",), ("end",)])
    return random_command(chance, many)


def some_tokens(chance, pending):
    """Some of the pending tokens, in another order, and the others."""
    told = chance.sample(pending, chance.randrange(len(pending) + 1))
    left = Counter(pending)
    left.subtract(told)
    return tuple(told), sorted(left.elements())


def random_log(seed, heap, length, most=6):
    """A log that a program and a collector made.

    No object is made where there are so many already, so that all sets can be tried.
    """
    chance = random.Random(seed)
    state = ("state", heap, ())
    log = []
    while len(log) < length:
        if chance.random() < 0.4:
            parts = condemnable_in(state[1])
            state = condemn_slowly(state, chance.choice([*parts[-2:], *parts]))
        machine = Machine(state)
        command = likely_command(chance, machine)
        if command[0] in ("record", "weak", "table") and len(state[1][4]) >= most:
            continue
        try:
            result = machine.do(command)
        except Failure:
            continue
        if command == ("drain",):
            result, machine.pending = some_tokens(chance, state[2])
        state = machine.state()
        log.append((command, result))
    return tuple(log)


def other_result(chance, heap, observation):
    """The observation with another result, if it is a likely one by chance."""
    command, result = observation
    numbers = [*numbers_in(heap), heap[1], 99]
    tokens = [token for _, token in heap[5]]
    if command == ("drain",):
        others = [result + (chance.choice(tokens or [0]),)] * 4
        others += [(*tokens,), result[1:], result[::-1], None, 0, (None,)]
    elif command[0] == "deref":
        others = [None, None, None, None, *[thing[2] for thing in heap[4] if thing[0] == "weak"], *numbers]
    else:
        others = [None, True, False, 0, 1, (), *numbers]
    return (command, chance.choice(others))


def changed_log(seed, heap, log):
    """The log with one or two results changed, mostly those that a collector has to do with."""
    chance = random.Random(seed)
    rows = list(log)
    places = [place for place in range(len(log)) if log[place][0][0] in ("deref", "drain")]
    for _ in range(chance.choice((1, 1, 2))):
        place = chance.choice([*places * 4, *range(len(rows))])
        rows[place] = other_result(chance, heap, log[place])
    return tuple(rows)


def wild_log(seed, heap, length):
    """A log that nothing need have made: commands that may fail, and any results."""
    chance = random.Random(seed)
    results = [None, True, False, -1, (), (1,), (None,), 99, *range(heap[1] + 3), *numbers_in(heap)]
    log = []
    for _ in range(length):
        command = likely_command(chance, Machine(("state", heap, ())))
        log.append((command, chance.choice(results)))
    return tuple(log)


def lively_heap(seed):
    """A small heap with weak references in its registers, and watches."""
    chance = random.Random(seed)
    many = chance.randrange(3, 6)
    numbers = list(range(many))
    objects = []
    for number in numbers:
        kind = chance.choice(("weak", "weak", "record", "record", "table"))
        if kind == "weak":
            inside = chance.choice([*numbers, None])
        elif kind == "record":
            inside = tuple(chance.choice([*numbers, None]) for _ in range(chance.randrange(3)))
        else:
            keys = chance.sample(numbers, chance.randrange(3))
            inside = tuple((key, chance.choice(numbers)) for key in keys)
        objects.append((kind, number, inside))
    weak = [thing[1] for thing in objects if thing[0] == "weak"]
    registers = tuple(chance.choice([*weak, *weak, *weak, *numbers[:2], None]) for _ in range(chance.randrange(2, 5)))
    kept = tuple(number for number in numbers if chance.random() < 0.15)
    watches = tuple((chance.choice(numbers), chance.randrange(3)) for _ in range(chance.randrange(4)))
    return ("heap", many, registers, kept, tuple(objects), watches)


def drawn_logs(seeds, length=5):
    """Heaps with logs that begin at them: each as it was made, and with results changed."""
    for seed in seeds:
        heap = lively_heap(seed)
        log = random_log(seed, heap, 1 + seed % length)
        yield heap, log
        yield heap, changed_log(seed, heap, log)
        yield heap, changed_log(-1 - seed, heap, log)


def large_run(seed):
    """A heap and a log with somewhat more than [c4] bounds, and what was condemned in a run that made it."""
    chance = random.Random(seed)
    many = 30
    objects = []
    for number in range(many):
        inside = (number + 1) % many if chance.random() < 0.6 else chance.randrange(many)
        kind = chance.choice(("weak", "weak", "record", "table"))
        if kind == "record":
            inside = (inside, None, chance.randrange(many), None, None)
        if kind == "table":
            inside = tuple((key, chance.randrange(many)) for key in chance.sample(range(many), 8))
        objects.append((kind, number, inside))
    registers = tuple(chance.choice([None, *range(many)]) for _ in range(14))
    watches = tuple((chance.randrange(many), 998 + chance.randrange(4)) for _ in range(14))
    runtime = Runtime(("heap", 1200, registers, (), tuple(objects), watches))
    heap = runtime.state[1]
    while len(runtime.log) < 36:
        if chance.random() < 0.3:
            runtime.collect(tuple(thing[1] for thing in runtime.state[1][4] if chance.random() < 0.7))
        command = likely_command(chance, Machine(runtime.state))
        if reason_of(runtime.state[1], command) is None:
            runtime.execute(command)
    return heap, runtime.log, runtime.condemned
