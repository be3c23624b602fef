"""A machine that does commands as [c5] and [c6] say, by changing itself; and random commands for it."""

import random


class Failure(Exception):
    pass


class Machine:
    def __init__(self, state):
        _, heap, pending = state
        _, self.following, registers, kept, objects, watches = heap
        self.registers = list(registers)
        self.kept = set(kept)
        self.kinds = {thing[1]: thing[0] for thing in objects}
        self.insides = {}
        for kind, number, inside in objects:
            self.insides[number] = inside if kind == "weak" else list(inside)
        self.watches = list(watches)
        self.pending = list(pending)

    def state(self):
        objects = []
        for number in sorted(self.kinds):
            inside = self.insides[number]
            kind = self.kinds[number]
            objects.append((kind, number, inside if kind == "weak" else tuple(inside)))
        kept = tuple(sorted(self.kept))
        heap = ("heap", self.following, tuple(self.registers), kept, tuple(objects), tuple(self.watches))
        return ("state", heap, tuple(self.pending))

    def full(self, *places):
        for place in places:
            if self.registers[place] is None:
                raise Failure("register is empty")
        return [self.registers[place] for place in places]

    def check(self, number, kind, reason):
        if self.kinds[number] != kind:
            raise Failure(reason)

    def make(self, to, kind, inside):
        number = self.following
        self.following += 1
        self.kinds[number] = kind
        self.insides[number] = inside
        self.registers[to] = number
        return number

    def into(self, to, reference):
        self.registers[to] = reference
        return reference

    def do(self, command):
        return getattr(self, "do_" + command[0])(*command[1:])

    def do_record(self, to, size):
        return self.make(to, "record", [None] * size)

    def do_weak(self, to, of):
        (target,) = self.full(of)
        self.kept.add(target)
        return self.make(to, "weak", target)

    def do_table(self, to):
        return self.make(to, "table", [])

    def do_copy(self, to, of):
        return self.into(to, self.registers[of])

    def do_clear(self, to):
        self.into(to, None)

    def do_read(self, to, of, index):
        (number,) = self.full(of)
        self.check(number, "record", "not a record")
        if index >= len(self.insides[number]):
            raise Failure("no such field")
        return self.into(to, self.insides[number][index])

    def do_write(self, into, index, of):
        (number,) = self.full(into)
        self.check(number, "record", "not a record")
        if index >= len(self.insides[number]):
            raise Failure("no such field")
        self.insides[number][index] = self.registers[of]

    def do_deref(self, to, of):
        (number,) = self.full(of)
        self.check(number, "weak", "not a weak reference")
        target = self.insides[number]
        if target is not None:
            self.kept.add(target)
        return self.into(to, target)

    def do_put(self, at, key, value):
        table, key, value = self.full(at, key, value)
        self.check(table, "table", "not a table")
        for place, (known, _) in enumerate(self.insides[table]):
            if known == key:
                self.insides[table][place] = (key, value)
                return
        self.insides[table].append((key, value))

    def do_remove(self, at, key):
        table, key = self.full(at, key)
        self.check(table, "table", "not a table")
        for place, (known, _) in enumerate(self.insides[table]):
            if known == key:
                del self.insides[table][place]
                return True
        return False

    def do_lookup(self, to, at, key):
        table, key = self.full(at, key)
        self.check(table, "table", "not a table")
        for known, value in self.insides[table]:
            if known == key:
                return self.into(to, value)
        return self.into(to, None)

    def do_watch(self, of, token):
        (number,) = self.full(of)
        self.watches.append((number, token))

    def do_drain(self):
        told = tuple(self.pending)
        self.pending = []
        return told

    def do_end(self):
        self.kept = set()


SHAPES = {
    "record": "rn", "weak": "rr", "table": "r", "copy": "rr", "clear": "r", "read": "rrn", "write": "rnr",
    "deref": "rr", "put": "rrr", "remove": "rr", "lookup": "rrr", "watch": "rn", "drain": "", "end": "",
}


LOADING = ("record", "weak", "table", "copy", "clear", "read", "deref", "lookup")


def random_command(chance, many):
    """A command for so many registers."""
    word = chance.choice(sorted(SHAPES))
    return (word, *[chance.randrange(many if part == "r" else 4) for part in SHAPES[word]])


def random_commands(seed, many, length):
    chance = random.Random(seed)
    return [random_command(chance, many) for _ in range(length)]
