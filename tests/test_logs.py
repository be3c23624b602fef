import itertools
import random
import unittest

from tests.samples import JUNK, Touchy, WRONG_HEAPS, heap_of, numbers_in, subsets
from tests.search import candidates_slowly, drawn_logs, explains_slowly, explanations, lively_heap
from tests.search import registers_slowly, wild_log
from weakcourt.logs import candidates, explains, registers_after

EXAMPLE = heap_of((0, 1, None), ("weak", 0, 2), ("weak", 1, 3), ("record", 2, (3,)), ("record", 3, ()))
TABLE = heap_of((0, 1, 2), ("table", 0, ((1, 1),)), ("record", 1, (2,)), ("record", 2, ()))
GONE = ((("deref", 2, 1), None), (("deref", 2, 0), None))
MANY = tuple(("record", number, (number,) * 9) for number in range(40))


class RegistersAfter(unittest.TestCase):
    def behind(self, command, result):
        rows = registers_after(EXAMPLE, ((command, result),))
        self.assertEqual(rows[0], (0, 1, None))
        self.assertEqual(len(rows), 2)
        return rows[1]

    def test_the_empty_log(self):
        self.assertEqual(registers_after(EXAMPLE, ()), ((0, 1, None),))

    def test_commands_that_load_what_was_seen(self):
        for command in (
            ("record", 1, 2), ("weak", 1, 0), ("table", 1), ("copy", 1, 0), ("read", 1, 0, 0), ("deref", 1, 0),
            ("lookup", 1, 0, 0),
        ):
            self.assertEqual(self.behind(command, 7), (0, 7, None))
            self.assertEqual(self.behind(command, 0), (0, 0, None))
            self.assertEqual(self.behind(command, None), (0, None, None))

    def test_clear_whatever_was_seen(self):
        for result in (None, 0, 7, True, ()):
            self.assertEqual(self.behind(("clear", 0), result), (None, 1, None))

    def test_commands_that_load_nothing(self):
        for command in (
            ("write", 0, 1, 1), ("put", 0, 1, 1), ("remove", 0, 1), ("watch", 0, 1), ("drain",), ("end",)
        ):
            for result in (None, 2, True, (2,)):
                self.assertEqual(self.behind(command, result), (0, 1, None))

    def test_results_that_are_no_references(self):
        for result in (True, False, -1, 2.0, "2", (), (2,), [2], Touchy()):
            self.assertEqual(self.behind(("copy", 0, 1), result), (None, 1, None))

    def test_numbers_of_no_objects_and_commands_that_fail(self):
        self.assertEqual(self.behind(("copy", 2, 0), 99), (0, 1, 99))
        self.assertEqual(self.behind(("deref", 0, 2), 3), (3, 1, None))

    def test_one_after_the_other(self):
        log = ((("copy", 2, 0), 0), (("end",), None), (("clear", 0), None), (("deref", 1, 1), 3))
        rows = ((0, 1, None), (0, 1, 0), (0, 1, 0), (None, 1, 0), (None, 3, 0))
        self.assertEqual(registers_after(EXAMPLE, log), rows)
        self.assertTrue(all(type(row) is tuple for row in registers_after(EXAMPLE, log)))

    def test_many_logs(self):
        for seed in range(200):
            heap = lively_heap(seed)
            log = wild_log(seed, heap, 12)
            self.assertEqual(registers_after(heap, log), registers_slowly(heap, log))


class Candidates(unittest.TestCase):
    def test_what_is_in_a_register_at_that_time_or_later(self):
        log = ((("deref", 2, 0), 2), (("clear", 2), None), (("clear", 0), None))
        self.assertEqual([candidates(EXAMPLE, log, place) for place in range(3)], [(3,), (3,), (2, 3)])

    def test_what_is_behind_this_observation_alone(self):
        self.assertEqual(candidates(EXAMPLE, ((("deref", 2, 0), 2), (("clear", 2), None)), 0), (3,))

    def test_place_0_and_the_last_place(self):
        log = ((("copy", 0, 2), None), (("end",), None), (("copy", 1, 2), None))
        self.assertEqual(candidates(EXAMPLE, log, 0), (2, 3))
        self.assertEqual(candidates(EXAMPLE, log, 2), (0, 2, 3))
        self.assertEqual(candidates(EXAMPLE, log[:1], 0), (2, 3))

    def test_made_objects(self):
        log = (
            (("record", 2, 1), 4), (("weak", 2, 0), 9), (("table", 2), 6), (("copy", 2, 0), 0), (("end",), None),
        )
        self.assertEqual([candidates(EXAMPLE, log, place) for place in range(5)],
                         [(2, 3), (2, 3), (2, 3, 4), (2, 3, 4, 9), (2, 3, 4, 6, 9)])

    def test_only_what_is_made_is_there(self):
        for command in (("copy", 2, 0), ("read", 2, 0, 0), ("deref", 2, 0), ("lookup", 2, 0, 1)):
            self.assertEqual(candidates(EXAMPLE, ((command, 50), (("clear", 2), None), (("end",), None)), 2), (2, 3))
        for command in (("write", 0, 0, 0), ("remove", 0, 0), ("drain",), ("end",)):
            self.assertEqual(candidates(EXAMPLE, ((command, 50), (("end",), None)), 1), (2, 3))

    def test_made_objects_that_are_no_references(self):
        for result in (None, True, False, -1, "4", (4,), 4.0, Touchy()):
            log = ((("record", 2, 1), result), (("end",), None))
            self.assertEqual(candidates(EXAMPLE, log, 1), (2, 3))

    def test_what_is_made_twice_or_was_there(self):
        log = ((("table", 2), 3), (("table", 2), 8), (("table", 2), 8), (("clear", 2), None), (("end",), None))
        self.assertEqual(candidates(EXAMPLE, log, 4), (2, 3, 8))

    def test_clear_whatever_was_seen(self):
        self.assertEqual(candidates(EXAMPLE, ((("clear", 0), 2), (("end",), None)), 1), (0, 2, 3))

    def test_many_logs(self):
        for seed in range(200):
            heap = lively_heap(seed)
            log = wild_log(seed, heap, 10)
            for place in range(len(log)):
                found = candidates(heap, log, place)
                self.assertIs(type(found), tuple)
                self.assertEqual(found, candidates_slowly(heap, log, place))


class Explains(unittest.TestCase):
    def assert_explains(self, heap, log, *all_sets):
        for sets in all_sets:
            self.assertIs(explains(heap, log, sets), True, (heap, log, sets))

    def assert_not(self, heap, log, *all_sets):
        for sets in all_sets:
            self.assertIs(explains(heap, log, sets), False, (heap, log, sets))

    def test_the_empty_log(self):
        self.assert_explains(EXAMPLE, (), ())
        self.assert_not(EXAMPLE, (), ((),), ((2, 3),), ((), ()))

    def test_sets(self):
        self.assert_explains(EXAMPLE, GONE, ((2, 3), ()))
        self.assert_not(EXAMPLE, GONE, ((), ()), ((), (2, 3)), ((2,), (3,)), ((3,), (2,)))

    def test_later_sets(self):
        log = ((("end",), None), (("deref", 2, 0), None), (("end",), None))
        self.assert_explains(EXAMPLE, log, ((2,), (), ()), ((), (2,), ()), ((2,), (3,), ()), ((2,), (), (3,)),
                             ((2, 3), (), ()), ((), (2, 3), ()), ((), (2,), (3,)))
        self.assert_not(EXAMPLE, log, ((), (), (2,)), ((3,), (2,), ()), ((2,), (2,), ()), ((2,), (2, 3), ()),
                        ((), (3,), (2,)))

    def test_sets_too_many_or_too_few(self):
        self.assert_not(EXAMPLE, GONE, (), ((2, 3),), ((2, 3), (), ()), ((), (2, 3), ()))

    def test_objects_that_are_not_there(self):
        self.assert_not(EXAMPLE, GONE, ((2, 3, 4), ()), ((2, 3), (4,)), ((2, 3), (2,)), ((-1, 2, 3), ()),
                        ((2, 3), (99,)))

    def test_objects_that_are_made(self):
        log = ((("record", 2, 0), 4), (("clear", 2), None), (("end",), None))
        self.assert_explains(EXAMPLE, log, ((), (), (4,)), ((2,), (), (3, 4)))
        self.assert_not(EXAMPLE, log, ((), (4,), ()), ((4,), (), ()), ((), (), (5,)))

    def test_kept_objects(self):
        log = ((("deref", 2, 0), 2), (("clear", 2), None), (("end",), None), (("deref", 2, 0), None))
        self.assert_explains(EXAMPLE, log, ((), (), (), (2,)), ((), (), (), (2, 3)))
        self.assert_not(EXAMPLE, log, ((), (), (2,), ()), ((2,), (), (), ()), ((), (2,), (), ()))

    def test_commands_that_fail(self):
        for command in (("deref", 0, 2), ("read", 2, 0, 0), ("watch", 2, 0), ("lookup", 0, 1, 1), ("put", 0, 0, 0)):
            for result in (None, 0, True, (), "register is empty"):
                self.assert_not(EXAMPLE, ((command, result),), ((),), ((2, 3),))

    def test_results_of_each_command(self):
        rows = (
            (("record", 0, 2), 3), (("weak", 0, 1), 3), (("table", 0), 3), (("copy", 0, 1), 1), (("clear", 0), None),
            (("read", 0, 1, 0), 2), (("write", 1, 0, 0), None), (("put", 0, 1, 2), None), (("remove", 0, 1), True),
            (("remove", 0, 2), False), (("lookup", 2, 0, 1), 1), (("lookup", 2, 0, 2), None), (("watch", 0, 1), None),
            (("drain",), ()), (("end",), None),
        )
        for command, result in rows:
            self.assert_explains(TABLE, ((command, result),), ((),))
            for other in (None, True, False, 0, 1, 2, 3, 4, -1, 1.0, "1", (), (1,), [], Touchy()):
                if type(other) is not type(result) or other != result:
                    self.assert_not(TABLE, ((command, other),), ((),))

    def test_a_truth_value_is_no_number(self):
        heap = heap_of((0, 1), ("table", 0, ((1, 1),)), ("weak", 1, 0))
        self.assert_explains(heap, ((("copy", 0, 1), 1),), ((),))
        self.assert_not(heap, ((("copy", 0, 1), True),), ((),))
        self.assert_explains(heap, ((("deref", 0, 1), 0),), ((),))
        self.assert_not(heap, ((("deref", 0, 1), False),), ((),))
        self.assert_explains(heap, ((("remove", 0, 1), True),), ((),))
        self.assert_not(heap, ((("remove", 0, 1), 1),), ((),))
        self.assert_explains(heap, ((("remove", 0, 0), False),), ((),))
        self.assert_not(heap, ((("remove", 0, 0), 0),), ((),))
        self.assert_not(heap, ((("remove", 0, 0), None),), ((),))

    def test_states_are_not_mixed_up_behind_a_wrong_result(self):
        log = ((("copy", 2, 0), 1), (("copy", 2, 2), 1))
        self.assert_not(EXAMPLE, log, ((), ()))


class Drain(unittest.TestCase):
    heap = heap_of(
        (None, 0), ("weak", 0, 1), ("record", 1, ()), ("record", 2, ()), ("record", 3, ()),
        watches=((1, 5), (2, 1), (2, 5), (3, 1), (0, 8)),
    )

    def check(self, expected, *results):
        log = tuple((("drain",), result) for result in results)
        sets = ((1, 2),) + ((),) * (len(results) - 1)
        self.assertIs(explains(self.heap, log, sets), expected, results)

    def test_any_of_the_tokens_in_any_order(self):
        for many in range(4):
            for result in itertools.permutations((5, 1, 5), many):
                self.check(True, result)

    def test_tokens_too_often_or_not_pending(self):
        for result in ((1, 1), (5, 5, 5), (5, 1, 5, 1), (8,), (5, 8), (0,), (2,), (7, 5)):
            self.check(False, result)

    def test_the_others_stay_pending(self):
        self.check(True, (5,), (5, 1))
        self.check(True, (), (1,), (), (5,), (5,), ())
        self.check(False, (5,), (5, 1), (5,))
        self.check(False, (1,), (1,))

    def test_nothing_is_pending_at_first(self):
        self.assertIs(explains(self.heap, ((("drain",), ()),), ((),)), True)
        self.assertIs(explains(self.heap, ((("drain",), (1,)),), ((),)), False)

    def test_tokens_that_become_pending_later(self):
        log = ((("drain",), (1,)), (("drain",), (1,)))
        self.assertIs(explains(self.heap, log, ((2,), (3,))), True)
        self.assertIs(explains(self.heap, log, ((2, 3), ())), True)
        self.assertIs(explains(self.heap, log, ((2,), ())), False)

    def test_watches_that_are_made(self):
        log = ((("watch", 1, 3), None), (("clear", 1), None), (("drain",), (3, 8)))
        self.assertIs(explains(self.heap, log, ((), (), (0,))), True)
        self.assertIs(explains(self.heap, log, ((), (), (0, 1))), True)
        self.assertIs(explains(self.heap, log, ((), (), (1,))), False)

    def test_what_is_no_tuple_of_tokens(self):
        for result in (None, 5, True, "5", [5], {5}, (True,), (1.0,), (None,), ("5",), ((5,),), (-1,), Touchy(),
                       (Touchy(),)):
            self.check(False, result)


class ManyExplanations(unittest.TestCase):
    def test_all_rows_of_sets(self):
        seen = set()
        for heap, log in drawn_logs(range(120), 2):
            parts = subsets(range(min(heap[1] + 1, 5)))
            for sets in itertools.product(parts, repeat=len(log)):
                found = explains(heap, log, sets)
                seen.add((len(log), found))
                self.assertIs(found, explains_slowly(heap, log, sets), (heap, log, sets))
        self.assertEqual(len(seen), 4)

    def test_longer_logs(self):
        chance = random.Random(5)
        told = [0, 0]
        for heap, log in drawn_logs(range(150), 6):
            rows = [sets for sets, _ in explanations(heap, log)[:40]]
            for sets in rows:
                self.assertIs(explains(heap, log, sets), True)
                place = chance.randrange(len(log))
                number = chance.choice([*numbers_in(heap), heap[1], 99])
                other = tuple(sorted(set(sets[place]) ^ {number}))
                changed = sets[:place] + (other,) + sets[place + 1:]
                right = explains_slowly(heap, log, changed)
                told[right] += 1
                self.assertIs(explains(heap, log, changed), right, (heap, log, changed))
        self.assertGreater(min(told), 50)


class WhateverElse(unittest.TestCase):
    def test_sets(self):
        for value in JUNK:
            for sets in (value, (value, ()), ((), value), ((2, 3), value), ((2, value), ()), ((value, 3), ())):
                self.assertIs(explains(EXAMPLE, GONE, sets), False)

    def test_sets_that_do_not_rise(self):
        for sets in (((3, 2), ()), ((2, 2, 3), ()), ((2, 3, 3), ())):
            self.assertIs(explains(EXAMPLE, GONE, sets), False)

    def test_lists(self):
        for sets in ([(2, 3), ()], ([2, 3], ()), ((2, 3), [])):
            self.assertIs(explains(EXAMPLE, GONE, sets), False)

    def test_truth_values_are_no_numbers(self):
        heap = heap_of((None,), ("record", 0, ()), ("record", 1, ()))
        log = ((("end",), None),)
        self.assertIs(explains(heap, log, ((0, 1),)), True)
        for sets in (((False, 1),), ((0, True),), ((True,),), ((1.0,),)):
            self.assertIs(explains(heap, log, sets), False)

    def test_logs(self):
        for value in [value for value in JUNK if type(value) is not int]:
            for log in (
                value,
                (GONE[0], value),
                ((value, None), GONE[1]),
                (((value, 2, 1), None), GONE[1]),
                ((("deref", value, 1), None), GONE[1]),
                ((("deref", 2, value), None), GONE[1]),
                ((("deref", value), None), GONE[1]),
                ((("deref", 2, 1, value), None), GONE[1]),
            ):
                self.assertIs(explains(EXAMPLE, log, ((2, 3), ())), False)

    def test_commands_that_are_none(self):
        for command in (("deref", 2, -1), ("deref", 2, 3), ("deref", 3, 1), ("deref", 2), ("condemn", (2, 3)),
                        ("collect", (2, 3)), ("Deref", 2, 1), ["deref", 2, 1], (), ("end", 0), ("record", 2, -1)):
            self.assertIs(explains(EXAMPLE, ((command, None), GONE[1]), ((2, 3), ())), False)

    def test_heaps(self):
        for heap in (EXAMPLE, TABLE, heap_of((None,)), heap_of(tuple(range(40)), *MANY, watches=((3, 5), (3, 5)))):
            self.assertIs(explains(heap, (), ()), True)
        for heap in (*JUNK, *WRONG_HEAPS):
            self.assertIs(explains(heap, (), ()), False, heap)


if __name__ == "__main__":
    unittest.main()
