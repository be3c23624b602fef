import unittest

from tests.machine import Failure, Machine, SHAPES, random_commands
from tests.samples import heap_of, random_heap
from weakcourt.commands import do
from weakcourt.errors import CommandFault
from weakcourt.text import format_heap, parse_heap

# Register 0 is empty, 1 has a record, 2 a weak reference, 3 a table, 4 a cleared one, 5 a record without fields.
OBJECTS = (
    ("record", 1, (5, None, 2)),
    ("weak", 2, 6),
    ("table", 3, ((5, 6), (2, 1), (1, 5))),
    ("weak", 4, None),
    ("record", 5, ()),
    ("record", 6, ()),
)
REGISTERS = (None, 1, 2, 3, 4, 5)
KEPT = (4,)
WATCHES = ((5, 2), (1, 0))
PENDING = (7, 3, 7)


def state_of(registers=REGISTERS, objects=OBJECTS, next=9, kept=KEPT, watches=WATCHES, pending=PENDING):
    return ("state", ("heap", next, registers, kept, objects, watches), pending)


def with_object(thing):
    return tuple(thing if other[1] == thing[1] else other for other in OBJECTS)


START = state_of()


def reason_of(state, command):
    try:
        do(state, command)
    except CommandFault as fault:
        return fault.reason
    return None


class Results(unittest.TestCase):
    def check(self, command, result, behind, start=START):
        told = do(start, command)
        self.assertEqual(told, (behind, result))
        self.assertIs(type(told), tuple)
        self.assertIs(type(told[1]), type(result))

    def test_record(self):
        made = (*OBJECTS, ("record", 9, (None, None)))
        self.check(("record", 0, 2), 9, state_of((9, 1, 2, 3, 4, 5), made, 10))
        made = (*OBJECTS, ("record", 9, ()))
        self.check(("record", 1, 0), 9, state_of((None, 9, 2, 3, 4, 5), made, 10))

    def test_the_first_object(self):
        start = ("state", heap_of((None,)), ())
        self.check(("record", 0, 1), 0, ("state", heap_of((0,), ("record", 0, (None,))), ()), start)
        self.check(("table", 0), 0, ("state", heap_of((0,), ("table", 0, ())), ()), start)

    def test_weak(self):
        made = (*OBJECTS, ("weak", 9, 3))
        self.check(("weak", 0, 3), 9, state_of((9, 1, 2, 3, 4, 5), made, 10, (3, 4)))
        self.check(("weak", 3, 3), 9, state_of((None, 1, 2, 9, 4, 5), made, 10, (3, 4)))
        made = (*OBJECTS, ("weak", 9, 2))
        self.check(("weak", 0, 2), 9, state_of((9, 1, 2, 3, 4, 5), made, 10, (2, 4)))

    def test_table(self):
        made = (*OBJECTS, ("table", 9, ()))
        self.check(("table", 5), 9, state_of((None, 1, 2, 3, 4, 9), made, 10))

    def test_copy(self):
        self.check(("copy", 0, 3), 3, state_of((3, 1, 2, 3, 4, 5)))
        self.check(("copy", 2, 1), 1, state_of((None, 1, 1, 3, 4, 5)))
        self.check(("copy", 3, 3), 3, START)

    def test_copy_with_an_empty_register(self):
        self.check(("copy", 3, 0), None, state_of((None, 1, 2, None, 4, 5)))
        self.check(("copy", 0, 0), None, START)

    def test_clear(self):
        self.check(("clear", 2), None, state_of((None, 1, None, 3, 4, 5)))
        self.check(("clear", 0), None, START)

    def test_read(self):
        self.check(("read", 0, 1, 0), 5, state_of((5, 1, 2, 3, 4, 5)))
        self.check(("read", 3, 1, 2), 2, state_of((None, 1, 2, 2, 4, 5)))
        self.check(("read", 1, 1, 0), 5, state_of((None, 5, 2, 3, 4, 5)))

    def test_read_an_empty_field(self):
        self.check(("read", 5, 1, 1), None, state_of((None, 1, 2, 3, 4, None)))

    def test_write(self):
        self.check(("write", 1, 1, 3), None, state_of(objects=with_object(("record", 1, (5, 3, 2)))))
        self.check(("write", 1, 0, 1), None, state_of(objects=with_object(("record", 1, (1, None, 2)))))
        self.check(("write", 1, 2, 4), None, state_of(objects=with_object(("record", 1, (5, None, 4)))))

    def test_write_with_an_empty_register(self):
        self.check(("write", 1, 0, 0), None, state_of(objects=with_object(("record", 1, (None, None, 2)))))
        self.check(("write", 1, 1, 0), None, START)

    def test_deref(self):
        self.check(("deref", 0, 2), 6, state_of((6, 1, 2, 3, 4, 5), kept=(4, 6)))
        self.check(("deref", 2, 2), 6, state_of((None, 1, 6, 3, 4, 5), kept=(4, 6)))

    def test_deref_of_a_cleared_one(self):
        self.check(("deref", 1, 4), None, state_of((None, None, 2, 3, 4, 5)))

    def test_put_with_a_new_key(self):
        entries = ((5, 6), (2, 1), (1, 5), (4, 2))
        self.check(("put", 3, 4, 2), None, state_of(objects=with_object(("table", 3, entries))))
        entries = ((5, 6), (2, 1), (1, 5), (3, 3))
        self.check(("put", 3, 3, 3), None, state_of(objects=with_object(("table", 3, entries))))

    def test_put_with_a_key_that_is_there(self):
        entries = ((5, 6), (2, 4), (1, 5))
        self.check(("put", 3, 2, 4), None, state_of(objects=with_object(("table", 3, entries))))
        entries = ((5, 1), (2, 1), (1, 5))
        self.check(("put", 3, 5, 1), None, state_of(objects=with_object(("table", 3, entries))))
        self.check(("put", 3, 2, 1), None, START)

    def test_remove(self):
        entries = ((5, 6), (1, 5))
        self.check(("remove", 3, 2), True, state_of(objects=with_object(("table", 3, entries))))

    def test_remove_of_a_key_that_is_not_there(self):
        self.check(("remove", 3, 4), False, START)
        self.check(("remove", 3, 3), False, START)

    def test_put_behind_remove_stands_at_the_end(self):
        behind = do(do(START, ("remove", 3, 5))[0], ("put", 3, 5, 5))[0]
        self.assertEqual(behind, state_of(objects=with_object(("table", 3, ((2, 1), (1, 5), (5, 5))))))

    def test_lookup(self):
        self.check(("lookup", 0, 3, 5), 6, state_of((6, 1, 2, 3, 4, 5)))
        self.check(("lookup", 3, 3, 1), 5, state_of((None, 1, 2, 5, 4, 5)))
        self.check(("lookup", 2, 3, 2), 1, state_of((None, 1, 1, 3, 4, 5)))

    def test_lookup_of_a_key_that_is_not_there(self):
        self.check(("lookup", 5, 3, 4), None, state_of((None, 1, 2, 3, 4, None)))

    def test_watch(self):
        self.check(("watch", 3, 11), None, state_of(watches=((5, 2), (1, 0), (3, 11))))
        self.check(("watch", 1, 0), None, state_of(watches=((5, 2), (1, 0), (1, 0))))

    def test_drain(self):
        self.check(("drain",), (7, 3, 7), state_of(pending=()))
        self.check(("drain",), (), state_of(pending=()), state_of(pending=()))

    def test_end(self):
        self.check(("end",), None, state_of(kept=()))
        self.check(("end",), None, state_of(kept=()), state_of(kept=(1, 2, 6)))
        self.check(("end",), None, state_of(kept=()), state_of(kept=()))

    def test_the_result_of_remove_is_a_truth_value(self):
        self.assertIs(do(START, ("remove", 3, 2))[1], True)
        self.assertIs(do(START, ("remove", 3, 4))[1], False)


class Kept(unittest.TestCase):
    def kept_behind(self, *commands):
        state = START
        for command in commands:
            state = do(state, command)[0]
        return state[1][3]

    def test_once_and_rising(self):
        self.assertEqual(self.kept_behind(("deref", 0, 2), ("deref", 0, 2)), (4, 6))
        self.assertEqual(self.kept_behind(("weak", 0, 5), ("weak", 0, 1), ("weak", 0, 5)), (1, 4, 5))
        self.assertEqual(self.kept_behind(("weak", 0, 4)), (4,))
        self.assertEqual(self.kept_behind(("deref", 0, 2), ("weak", 5, 0), ("weak", 5, 3)), (3, 4, 6))

    def test_the_new_weak_reference_is_not_kept_itself(self):
        self.assertEqual(self.kept_behind(("weak", 0, 1), ("weak", 5, 0)), (1, 4, 9))

    def test_nothing_else_keeps(self):
        self.assertEqual(
            self.kept_behind(("read", 0, 1, 0), ("lookup", 0, 3, 5), ("copy", 0, 1), ("put", 3, 2, 1),
                             ("write", 1, 0, 3), ("watch", 1, 1), ("record", 0, 1), ("table", 0)),
            (4,),
        )

    def test_end_and_again(self):
        self.assertEqual(self.kept_behind(("deref", 0, 2), ("end",)), ())
        self.assertEqual(self.kept_behind(("end",), ("deref", 0, 2)), (6,))


class Faults(unittest.TestCase):
    def check(self, reason, *commands):
        for command in commands:
            with self.subTest(command=command):
                self.assertEqual(reason_of(START, command), reason)

    def test_register_is_empty(self):
        self.check(
            "register is empty",
            ("weak", 1, 0),
            ("read", 1, 0, 0),
            ("write", 0, 0, 1),
            ("deref", 1, 0),
            ("put", 0, 1, 2),
            ("put", 3, 0, 2),
            ("put", 3, 1, 0),
            ("remove", 0, 1),
            ("remove", 3, 0),
            ("lookup", 1, 0, 2),
            ("lookup", 1, 3, 0),
            ("watch", 0, 1),
        )

    def test_not_a_record(self):
        self.check(
            "not a record",
            ("read", 0, 2, 0),
            ("read", 0, 3, 0),
            ("read", 0, 4, 0),
            ("write", 2, 0, 1),
            ("write", 3, 0, 1),
        )

    def test_not_a_weak_reference(self):
        self.check("not a weak reference", ("deref", 0, 1), ("deref", 0, 3), ("deref", 0, 5))

    def test_not_a_table(self):
        self.check(
            "not a table",
            ("put", 1, 2, 3),
            ("put", 2, 3, 3),
            ("remove", 1, 3),
            ("remove", 4, 3),
            ("lookup", 0, 1, 3),
            ("lookup", 0, 2, 3),
        )

    def test_no_such_field(self):
        self.check(
            "no such field",
            ("read", 0, 1, 3),
            ("read", 0, 1, 8),
            ("read", 0, 5, 0),
            ("write", 1, 3, 2),
            ("write", 5, 0, 1),
            ("write", 1, 3, 0),
        )

    def test_several_reasons_at_once(self):
        # The other operand is empty, though the first one is of the wrong kind.
        self.check(
            "register is empty",
            ("put", 1, 0, 2),
            ("put", 2, 3, 0),
            ("remove", 1, 0),
            ("lookup", 3, 2, 0),
            ("read", 1, 0, 9),
            ("write", 0, 9, 0),
        )
        # No such index either, and what would be written is empty.
        self.check("not a record", ("read", 1, 3, 9), ("write", 2, 9, 0), ("write", 4, 0, 0), ("read", 0, 2, 1))

    def test_what_cannot_fail(self):
        self.check(
            None,
            ("record", 0, 0),
            ("table", 0),
            ("copy", 1, 0),
            ("clear", 0),
            ("write", 1, 0, 0),
            ("watch", 2, 0),
            ("drain",),
            ("end",),
            ("deref", 0, 4),
            ("lookup", 0, 3, 3),
        )

    def test_to_need_not_be_empty_or_full(self):
        for to in range(6):
            self.check(None, ("weak", to, 1), ("read", to, 1, 2), ("deref", to, 2), ("lookup", to, 3, 1))

    def test_the_class(self):
        with self.assertRaises(CommandFault) as caught:
            do(START, ("read", 0, 2, 0))
        self.assertEqual(caught.exception.reason, "not a record")


class ManyCommands(unittest.TestCase):
    def test_as_a_machine_does_them(self):
        seen = {}
        for seed in range(150):
            heap = random_heap(seed)
            state = ("state", heap, (3, 1))
            machine = Machine(state)
            for command in random_commands(seed, len(heap[2]), 40):
                try:
                    expected = machine.do(command)
                    reason = None
                except Failure as failure:
                    reason = str(failure)
                with self.subTest(state=state, command=command):
                    self.assertEqual(reason_of(state, command), reason)
                    if reason is None:
                        state, result = do(state, command)
                        self.assertEqual((state, result), (machine.state(), expected))
                        self.assertIs(type(result), type(expected))
                        self.assertEqual(parse_heap(format_heap(state[1])), state[1])
                seen[command[0], reason] = True
        self.assertEqual({word for word, reason in seen if reason is None}, set(SHAPES))
        self.assertEqual(len([word for word, reason in seen if reason is not None]), 8 + 6 + 2)


if __name__ == "__main__":
    unittest.main()
