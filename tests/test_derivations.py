import unittest

from tests.samples import Touchy, all_steps, derive_slowly, heap_of, random_heap, random_set
from weakcourt.alive import obtainable
from weakcourt.derivations import check_derivation, compile_derivation, derive, with_registers

EXAMPLE = heap_of(
    (0, 1, None), ("weak", 0, 2), ("weak", 1, 3), ("record", 2, (3,)), ("record", 3, ())
)

# Each kind of reason: a record 0, a table 1, a weak reference 2, a cleared one 3, and what they lead to.
MIXED = heap_of(
    (0, None, 1),
    ("record", 0, (None, 4, 2)),
    ("table", 1, ((4, 5), (5, 3), (6, 2))),
    ("weak", 2, 6),
    ("weak", 3, None),
    ("record", 4, ()),
    ("record", 5, ()),
    ("record", 6, ()),
)

RIGHT = (
    (0, ("register", 0)),
    (1, ("register", 2)),
    (4, ("field", 0, 1)),
    (5, ("entry", 1, 4)),
    (2, ("field", 0, 2)),
    (6, ("deref", 2)),
)


class Derive(unittest.TestCase):
    def test_the_example(self):
        steps = ((0, ("register", 0)), (2, ("deref", 0)), (3, ("field", 2, 0)))
        self.assertEqual(derive(EXAMPLE, (3,), 3), steps)

    def test_the_round_is_the_least(self):
        self.assertEqual(derive(EXAMPLE, (), 3), ((1, ("register", 1)), (3, ("deref", 1))))

    def test_an_object_in_a_register(self):
        self.assertEqual(derive(EXAMPLE, (), 1), ((1, ("register", 1)),))
        self.assertEqual(derive(EXAMPLE, (0, 1), 1), ((1, ("register", 1)),))

    def test_the_first_register(self):
        heap = heap_of((None, 5, 2, 5, 2), ("record", 2, (5,)), ("record", 5, (2,)))
        self.assertEqual(derive(heap, (), 5), ((5, ("register", 1)),))
        self.assertEqual(derive(heap, (), 2), ((2, ("register", 2)),))

    def test_what_is_not_obtainable(self):
        self.assertIsNone(derive(EXAMPLE, (2, 3), 3))
        self.assertIsNone(derive(EXAMPLE, (2, 3), 2))
        self.assertIsNone(derive(EXAMPLE, (2,), 2))

    def test_the_first_object_by_rising_number_not_by_register(self):
        heap = heap_of((8, 3), ("record", 3, (None, 9)), ("record", 8, (9,)), ("record", 9, ()))
        self.assertEqual(derive(heap, (), 9), ((3, ("register", 1)), (9, ("field", 3, 1))))

    def test_the_first_object_whatever_its_kind(self):
        weak, table, record = ("weak", 1, 4), ("table", 2, ((2, 4),)), ("record", 3, (4,))
        heap = heap_of((1, 2, 3), weak, table, record, ("record", 4, ()))
        self.assertEqual(derive(heap, (), 4), ((1, ("register", 0)), (4, ("deref", 1))))
        self.assertEqual(derive(heap, (4,), 4), ((2, ("register", 1)), (4, ("entry", 2, 2))))
        heap = heap_of((3, 2), weak, table, record, ("record", 4, ()))
        self.assertEqual(derive(heap, (), 4), ((2, ("register", 1)), (4, ("entry", 2, 2))))

    def test_a_key_is_not_what_an_object_follows_from_first(self):
        heap = heap_of((1, 4, 6), ("record", 1, ()), ("record", 4, (7,)), ("table", 6, ((1, 7),)),
                       ("record", 7, ()))
        self.assertEqual(derive(heap, (), 7), ((4, ("register", 1)), (7, ("field", 4, 0))))

    def test_objects_of_the_same_round_do_not_count(self):
        heap = heap_of((5,), ("record", 1, (2,)), ("record", 2, ()), ("record", 5, (1, 2)))
        self.assertEqual(derive(heap, (), 2), ((5, ("register", 0)), (2, ("field", 5, 1))))

    def test_the_first_field(self):
        heap = heap_of((0,), ("record", 0, (None, 1, 0, 1)), ("record", 1, ()))
        self.assertEqual(derive(heap, (), 1), ((0, ("register", 0)), (1, ("field", 0, 1))))

    def test_the_first_entry_whose_key_has_a_lower_round_too(self):
        heap = heap_of((0, 3), ("table", 0, ((1, 4), (2, 3), (3, 4), (0, 4))), ("record", 1, ()),
                       ("record", 2, ()), ("record", 3, (1,)), ("record", 4, ()))
        self.assertEqual(
            derive(heap, (), 4), ((0, ("register", 0)), (3, ("register", 1)), (4, ("entry", 0, 3)))
        )

    def test_the_first_entry_is_not_the_least_key(self):
        heap = heap_of((0, 1, 2), ("table", 0, ((2, 3), (1, 3))), ("record", 1, ()), ("record", 2, ()),
                       ("record", 3, ()))
        self.assertEqual(
            derive(heap, (), 3), ((0, ("register", 0)), (2, ("register", 2)), (3, ("entry", 0, 2)))
        )

    def test_a_late_key(self):
        heap = heap_of((9,), ("record", 2, (7,)), ("table", 5, ((7, 6),)), ("record", 6, ()),
                       ("record", 7, ()), ("record", 9, (2, 5)))
        self.assertEqual(
            derive(heap, (), 6),
            (
                (9, ("register", 0)),
                (2, ("field", 9, 0)),
                (5, ("field", 9, 1)),
                (7, ("field", 2, 0)),
                (6, ("entry", 5, 7)),
            ),
        )

    def test_by_round_then_by_number_each_object_once(self):
        heap = heap_of((8, 7), ("table", 1, ((3, 0),)), ("record", 0, ()), ("record", 3, ()),
                       ("record", 7, (3,)), ("record", 8, (1, 7)))
        self.assertEqual(
            derive(heap, (), 0),
            (
                (7, ("register", 1)),
                (8, ("register", 0)),
                (1, ("field", 8, 0)),
                (3, ("field", 7, 0)),
                (0, ("entry", 1, 3)),
            ),
        )

    def test_a_table_that_is_its_own_key(self):
        heap = heap_of((0,), ("table", 0, ((0, 1),)), ("record", 1, ()))
        self.assertEqual(derive(heap, (), 1), ((0, ("register", 0)), (1, ("entry", 0, 0))))

    def test_many_heaps(self):
        for seed in range(400):
            heap = random_heap(seed)
            condemned = random_set(seed, heap)
            for kind, number, inside in heap[4]:
                with self.subTest(heap=heap, condemned=condemned, number=number):
                    self.assertEqual(derive(heap, condemned, number), derive_slowly(heap, condemned, number))


class Check(unittest.TestCase):
    def assert_right(self, heap, condemned, steps):
        with self.subTest(steps=steps):
            self.assertIs(check_derivation(heap, condemned, steps), True)

    def assert_wrong(self, heap, condemned, steps):
        with self.subTest(steps=repr(steps)):
            self.assertIs(check_derivation(heap, condemned, steps), False)

    def test_right_ones(self):
        self.assert_right(MIXED, (), RIGHT)
        self.assert_right(MIXED, (0, 1, 2, 3, 4, 5), RIGHT)
        self.assert_right(MIXED, (), RIGHT + RIGHT)
        for many in range(1, len(RIGHT) + 1):
            self.assert_right(MIXED, (), RIGHT[:many])

    def test_neither_the_order_nor_the_reason_must_be_the_best_one(self):
        steps = ((1, ("register", 1)), (0, ("register", 0)), (2, ("deref", 0)), (3, ("field", 2, 0)))
        self.assert_right(EXAMPLE, (), steps)
        self.assert_right(EXAMPLE, (3,), steps)

    def test_an_object_may_stand_twice_with_other_reasons(self):
        steps = ((0, ("register", 0)), (1, ("register", 1)), (2, ("deref", 0)), (3, ("deref", 1)), (3, ("field", 2, 0)))
        self.assert_right(EXAMPLE, (), steps)

    def test_no_steps(self):
        self.assert_wrong(MIXED, (), ())

    def test_the_last_step_wrong_in_each_kind(self):
        for step in (
            (0, ("register", 1)),
            (0, ("register", 2)),
            (0, ("register", 3)),
            (1, ("register", -1)),
            (0, ("register", -3)),
            (2, ("register", 0)),
            (4, ("field", 0, 0)),
            (4, ("field", 0, 2)),
            (2, ("field", 0, -1)),
            (4, ("field", 0, 3)),
            (4, ("field", 4, 0)),
            (4, ("field", 1, 0)),
            (5, ("field", 1, 4)),
            (6, ("field", 2, 0)),
            (6, ("field", 2, 2)),
            (5, ("entry", 1, 0)),
            (4, ("entry", 1, 4)),
            (3, ("entry", 1, 4)),
            (5, ("entry", 0, 4)),
            (4, ("entry", 0, 1)),
            (5, ("entry", 2, 4)),
            (5, ("entry", 4, 1)),
            (4, ("deref", 2)),
            (2, ("deref", 6)),
            (4, ("deref", 0)),
            (5, ("deref", 1)),
            (6, ("deref", 4)),
        ):
            self.assert_wrong(MIXED, (), RIGHT + (step,))
        self.assert_right(MIXED, (), RIGHT + ((3, ("entry", 1, 5)), (2, ("entry", 1, 6))))

    def test_what_a_cleared_reference_gives(self):
        steps = RIGHT + ((3, ("entry", 1, 5)),)
        for number in (None, 0, 3, 6):
            self.assert_wrong(MIXED, (), steps + ((number, ("deref", 3)),))

    def test_none_is_no_object(self):
        self.assert_wrong(MIXED, (), ((None, ("register", 1)),))
        self.assert_wrong(MIXED, (), ((0, ("register", 0)), (None, ("field", 0, 0))))

    def test_objects_of_later_steps(self):
        self.assert_wrong(MIXED, (), (RIGHT[2], RIGHT[0]))
        self.assert_wrong(MIXED, (), (RIGHT[0], RIGHT[2], RIGHT[3], RIGHT[1]))
        self.assert_wrong(MIXED, (), (RIGHT[0], RIGHT[1], RIGHT[3], RIGHT[2]))
        self.assert_wrong(MIXED, (), (RIGHT[0], RIGHT[5], RIGHT[4]))

    def test_objects_of_no_step(self):
        self.assert_wrong(MIXED, (), (RIGHT[2],))
        self.assert_wrong(MIXED, (), (RIGHT[0], RIGHT[2], RIGHT[3]))
        self.assert_wrong(MIXED, (), (RIGHT[1], RIGHT[3]))
        self.assert_wrong(MIXED, (), (RIGHT[5],))

    def test_a_step_is_not_earlier_than_itself(self):
        heap = heap_of((None,), ("record", 0, (0,)), ("weak", 1, 1), ("table", 2, ((2, 2),)))
        self.assert_wrong(heap, (), ((0, ("field", 0, 0)),))
        self.assert_wrong(heap, (), ((1, ("deref", 1)),))
        self.assert_wrong(heap, (), ((2, ("entry", 2, 2)),))

    def test_a_condemned_target(self):
        self.assert_wrong(MIXED, (6,), RIGHT)
        self.assert_right(MIXED, (6,), RIGHT[:5])
        self.assert_right(MIXED, (2,), RIGHT)
        self.assert_wrong(EXAMPLE, (2, 3), ((0, ("register", 0)), (2, ("deref", 0)), (3, ("field", 2, 0))))

    def test_objects_that_are_not_there(self):
        self.assert_wrong(MIXED, (), ((99, ("register", 0)),))
        self.assert_wrong(MIXED, (), RIGHT + ((4, ("field", 99, 0)),))
        self.assert_wrong(MIXED, (), RIGHT + ((5, ("entry", 99, 4)),))
        self.assert_wrong(MIXED, (), RIGHT + ((5, ("entry", 1, 99)),))
        self.assert_wrong(MIXED, (), RIGHT + ((6, ("deref", 99)),))
        self.assert_right(MIXED, (99,), RIGHT)
        self.assert_wrong(MIXED, (99, 6), RIGHT)

    def test_other_shapes(self):
        for reason in (
            (),
            ("register",),
            ("register", 0, 0),
            ("field", 0),
            ("field", 0, 1, 1),
            ("entry", 1),
            ("entry", 1, 4, 5),
            ("deref",),
            ("deref", 2, 2),
            ("kept",),
            ("later", 0),
            ("", 0),
            ("Register", 0),
            (0, "register"),
            "register",
        ):
            for number in (0, 2, 4, 5, 6):
                self.assert_wrong(MIXED, (), RIGHT + ((number, reason),))

    def test_other_steps(self):
        for step in ((), (0,), (0, ("register", 0), 0), ("register", 0), 0, None, "ab", ["register", 0], {}):
            self.assert_wrong(MIXED, (), (step,))
            self.assert_wrong(MIXED, (), RIGHT + (step,))

    def test_other_kinds_of_values(self):
        for steps in (None, True, 0, 1, "", "steps", b"steps", 1.5, [], {}, set(), object(), range(3), ((),), (None,)):
            self.assert_wrong(MIXED, (), steps)
        for value in (None, True, False, "0", 0.0, 1.0, [], [0], {}, set(), (), (0,), object(), Touchy()):
            self.assert_wrong(MIXED, (), ((value, ("register", 0)),))
            self.assert_wrong(MIXED, (), ((0, value),))
            self.assert_wrong(MIXED, (), ((0, (value, 0)),))
            self.assert_wrong(MIXED, (), ((0, ("register", value)),))
            self.assert_wrong(MIXED, (), RIGHT + ((4, ("field", value, 1)),))
            self.assert_wrong(MIXED, (), RIGHT + ((4, ("field", 0, value)),))
            self.assert_wrong(MIXED, (), RIGHT + ((5, ("entry", value, 4)),))
            self.assert_wrong(MIXED, (), RIGHT + ((5, ("entry", 1, value)),))
            self.assert_wrong(MIXED, (), RIGHT + ((6, ("deref", value)),))

    def test_truth_values_are_no_numbers(self):
        heap = heap_of((1, 1), ("table", 0, ((1, 1),)), ("record", 1, (1, 1)), ("weak", 2, 1))
        self.assert_right(heap, (), ((1, ("register", 1)), (1, ("field", 1, 1))))
        self.assert_wrong(heap, (), ((True, ("register", 1)),))
        self.assert_wrong(heap, (), ((1, ("register", True)),))
        self.assert_wrong(heap, (), ((1, ("register", False)),))
        self.assert_wrong(heap, (), ((1, ("register", 1)), (1, ("field", True, 1))))
        self.assert_wrong(heap, (), ((1, ("register", 1)), (1, ("field", 1, True))))

    def test_truth_values_in_entry_and_deref(self):
        heap = heap_of((0, 1), ("table", 0, ((1, 2),)), ("weak", 1, 2), ("record", 2, ()))
        begin = ((0, ("register", 0)), (1, ("register", 1)))
        self.assert_right(heap, (), begin + ((2, ("entry", 0, 1)), (2, ("deref", 1))))
        self.assert_wrong(heap, (), begin + ((2, ("entry", 0, True)),))
        self.assert_wrong(heap, (), begin + ((2, ("entry", False, 1)),))
        self.assert_wrong(heap, (), begin + ((2, ("deref", True)),))

    def test_lists_in_place_of_tuples(self):
        self.assert_wrong(MIXED, (), list(RIGHT))
        self.assert_wrong(MIXED, (), tuple(list(step) for step in RIGHT))
        self.assert_wrong(MIXED, (), tuple((number, list(reason)) for number, reason in RIGHT))
        self.assert_wrong(MIXED, (), RIGHT[:5] + ([6, ("deref", 2)],))
        self.assert_wrong(MIXED, (), RIGHT[:5] + ((6, ["deref", 2]),))

    def test_what_derive_gives_is_right(self):
        for seed in range(200):
            heap = random_heap(seed)
            condemned = random_set(seed, heap)
            for number in obtainable(heap, condemned):
                self.assert_right(heap, condemned, derive(heap, condemned, number))

    def test_every_step_in_turn_replaced(self):
        for seed in range(40):
            heap = random_heap(seed)
            condemned = random_set(seed, heap)
            allowed = {step[:2]: step[2] for step in all_steps(heap, condemned)}
            for number in obtainable(heap, condemned):
                steps = derive(heap, condemned, number)
                for place, other, reason in self.replacements(heap, steps):
                    changed = steps[:place] + ((other, reason),) + steps[place + 1:]
                    right = all(
                        step in allowed and set(allowed[step]) <= {earlier[0] for earlier in changed[:at]}
                        for at, step in enumerate(changed)
                    )
                    self.assertIs(check_derivation(heap, condemned, changed), right, (heap, condemned, changed))

    def replacements(self, heap, steps):
        numbers = [thing[1] for thing in heap[4]][:5]
        reasons = [("register", i) for i in range(3)] + [("deref", w) for w in numbers]
        reasons += [(kind, r, i) for kind in ("field", "entry") for r in numbers for i in (0, 1, *numbers[:2])]
        return [(place, number, reason) for place in range(len(steps)) for number in numbers for reason in reasons]


def load(heap, commands):
    """The registers behind the commands of [c5], as far as derivations are compiled into them."""
    things = {thing[1]: thing for thing in heap[4]}
    registers = list(heap[2])
    for kind, to, *rest in commands:
        held = [registers[i] for i in rest[:1]][0]
        if kind == "copy":
            registers[to] = held
        elif kind == "read":
            assert things[held][0] == "record"
            registers[to] = things[held][2][rest[1]]
        elif kind == "lookup":
            assert things[held][0] == "table"
            registers[to] = dict(things[held][2])[registers[rest[1]]]
        else:
            assert kind == "deref" and things[held][0] == "weak"
            registers[to] = things[held][2]
    return tuple(registers)


class Compile(unittest.TestCase):
    def test_each_kind_of_reason(self):
        self.assertEqual(
            compile_derivation(MIXED, RIGHT),
            (
                ("copy", 3, 0),
                ("copy", 4, 2),
                ("read", 5, 3, 1),
                ("lookup", 6, 4, 5),
                ("read", 7, 3, 2),
                ("deref", 8, 7),
            ),
        )

    def test_the_example(self):
        steps = derive(EXAMPLE, (3,), 3)
        commands = (("copy", 3, 0), ("deref", 4, 3), ("read", 5, 4, 0))
        self.assertEqual(compile_derivation(EXAMPLE, steps), commands)

    def test_the_register_of_the_first_step_with_the_object(self):
        heap = heap_of((0, 0), ("record", 0, (0, 1)), ("table", 1, ((1, 2), (0, 2))), ("weak", 2, 0))
        steps = (
            (0, ("register", 1)),
            (0, ("register", 0)),
            (0, ("field", 0, 0)),
            (1, ("field", 0, 1)),
            (1, ("field", 0, 1)),
            (2, ("entry", 1, 1)),
            (2, ("entry", 1, 0)),
            (0, ("deref", 2)),
            (1, ("field", 0, 1)),
        )
        self.assertEqual(
            compile_derivation(heap, steps),
            (
                ("copy", 2, 1),
                ("copy", 3, 0),
                ("read", 4, 2, 0),
                ("read", 5, 2, 1),
                ("read", 6, 2, 1),
                ("lookup", 7, 5, 5),
                ("lookup", 8, 5, 2),
                ("deref", 9, 7),
                ("read", 10, 2, 1),
            ),
        )

    def test_one_register_and_one_step(self):
        heap = heap_of((4,), ("record", 4, ()))
        self.assertEqual(compile_derivation(heap, ((4, ("register", 0)),)), (("copy", 1, 0),))

    def test_what_is_loaded_is_what_the_steps_tell(self):
        for seed in range(200):
            heap = random_heap(seed)
            for number in obtainable(heap, ()):
                steps = derive(heap, (), number)
                more = with_registers(heap, len(steps))
                loaded = load(more, compile_derivation(heap, steps))
                self.assertEqual(loaded, heap[2] + tuple(step[0] for step in steps))


class WithRegisters(unittest.TestCase):
    def test_empty_ones_stand_behind_the_others(self):
        heap = heap_of((4, None), ("record", 4, ()), next=9, kept=(4,), watches=((4, 1),))
        more = ("heap", 9, (4, None, None, None, None), (4,), (("record", 4, ()),), ((4, 1),))
        self.assertEqual(with_registers(heap, 3), more)

    def test_none_and_many(self):
        self.assertEqual(with_registers(EXAMPLE, 0), EXAMPLE)
        self.assertEqual(len(with_registers(EXAMPLE, 54)[2]), 57)


class Kinds(unittest.TestCase):
    def test_all_are_tuples(self):
        steps = derive(MIXED, (), 5)
        self.assertIs(type(steps), tuple)
        for step in steps:
            self.assertIs(type(step), tuple)
            self.assertIs(type(step[1]), tuple)
        commands = compile_derivation(MIXED, steps)
        self.assertIs(type(commands), tuple)
        self.assertTrue(all(type(command) is tuple for command in commands))
        self.assertIs(type(with_registers(MIXED, 2)[2]), tuple)


if __name__ == "__main__":
    unittest.main()
