"""The commands of a program: what they do, and when they fail."""

from weakcourt.errors import CommandFault
from weakcourt.heaps import adding, by_number, following_of, holding, keeping, keeping_nothing
from weakcourt.heaps import registers_of, replacing, watching

# Where a command names registers that must hold an object, the one whose kind is asked first.
FILLED = {
    "weak": (2,),
    "read": (2,),
    "write": (1,),
    "deref": (2,),
    "put": (1, 2, 3),
    "remove": (1, 2),
    "lookup": (2, 3),
    "watch": (1,),
}
KINDS = {
    "read": "record",
    "write": "record",
    "deref": "weak",
    "put": "table",
    "remove": "table",
    "lookup": "table",
}
WRONG_KINDS = {"record": "not a record", "weak": "not a weak reference", "table": "not a table"}


def in_place(heap, place):
    """The object in this register, which is not empty."""
    return by_number(heap)[registers_of(heap)[place]]


def make(heap, to, kind, inside):
    """The heap with a new object in the register, and its number."""
    number = following_of(heap)
    return holding(adding(heap, kind, inside), to, number), number


def make_record(heap, command):
    _, to, size = command
    return make(heap, to, "record", (None,) * size)


def make_weak(heap, command):
    _, to, of = command
    target = registers_of(heap)[of]
    return make(keeping(heap, target), to, "weak", target)


def make_table(heap, command):
    return make(heap, command[1], "table", ())


def copy_reference(heap, command):
    _, to, of = command
    held = registers_of(heap)[of]
    return holding(heap, to, held), held


def clear_place(heap, command):
    return holding(heap, command[1], None), None


def read_field(heap, command):
    _, to, of, index = command
    held = in_place(heap, of)[2][index]
    return holding(heap, to, held), held


def write_field(heap, command):
    _, into, index, of = command
    kind, number, fields = in_place(heap, into)
    written = fields[:index] + (registers_of(heap)[of],) + fields[index + 1:]
    return replacing(heap, (kind, number, written)), None


def deref_target(heap, command):
    _, to, of = command
    target = in_place(heap, of)[2]
    behind = heap if target is None else keeping(heap, target)
    return holding(behind, to, target), target


def put_entry(heap, command):
    _, at, key, value = command
    kind, number, inside = in_place(heap, at)
    held = registers_of(heap)
    # A dict leaves a key that it has in its place, and adds another one at the end.
    entries = dict(inside)
    entries[held[key]] = held[value]
    return replacing(heap, (kind, number, tuple(entries.items()))), None


def remove_entry(heap, command):
    _, at, key = command
    kind, number, inside = in_place(heap, at)
    removed = registers_of(heap)[key]
    entries = tuple([entry for entry in inside if entry[0] != removed])
    return replacing(heap, (kind, number, entries)), len(entries) < len(inside)


def lookup_key(heap, command):
    _, to, at, key = command
    value = dict(in_place(heap, at)[2]).get(registers_of(heap)[key])
    return holding(heap, to, value), value


def add_watch(heap, command):
    _, of, token = command
    return watching(heap, registers_of(heap)[of], token), None


def end_job(heap, _):
    return keeping_nothing(heap), None


ACTIONS = {
    "record": make_record,
    "weak": make_weak,
    "table": make_table,
    "copy": copy_reference,
    "clear": clear_place,
    "read": read_field,
    "write": write_field,
    "deref": deref_target,
    "put": put_entry,
    "remove": remove_entry,
    "lookup": lookup_key,
    "watch": add_watch,
    "end": end_job,
}


def do(state, command):
    """The state behind the command, and its result; raises CommandFault if it fails."""
    word, heap, pending = state
    reason = fault_of(heap, command)
    if reason is not None:
        raise CommandFault(reason)
    if command[0] == "drain":
        return (word, heap, ()), pending
    action = ACTIONS[command[0]]
    behind, result = action(heap, command)
    return (word, behind, pending), result


def fault_of(heap, command):
    """The reason why the command fails, None if it does not."""
    word = command[0]
    held = [registers_of(heap)[command[place]] for place in FILLED.get(word, ())]
    if None in held:
        return "register is empty"
    if word not in KINDS:
        return None
    thing = by_number(heap)[held[0]]
    if thing[0] != KINDS[word]:
        return WRONG_KINDS[KINDS[word]]
    if thing[0] == "record" and index_of(command) >= len(thing[2]):
        return "no such field"
    return None


def index_of(command):
    """Which field the command reads or writes."""
    return command[3] if command[0] == "read" else command[2]
