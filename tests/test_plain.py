import unittest

from tests.machine import SHAPES
from tests.samples import Touchy, heap_of, random_heap
from tests.search import drawn_logs, lively_heap, play_slowly, reason_of, wild_log
from tests.slow_papers import held_slowly
from weakcourt.papers import held, plain

EXAMPLE = heap_of((0, 1, None), ("weak", 0, 2), ("weak", 1, 3), ("record", 2, (3,)), ("record", 3, ()))
TABLE = heap_of((0, 1, 2, None), ("table", 0, ((1, 2),)), ("record", 1, (2, None)), ("record", 2, ()),
                next=5, kept=(2,), watches=((1, 4),))


def with_parts(heap, registers=None, kept=None, objects=None, next=None, watches=None):
    word, *parts = heap
    given = (next, registers, kept, objects, watches)
    return (word, *[old if new is None else new for old, new in zip(parts, given)])


def with_object(heap, thing):
    return tuple(thing if other[1] == thing[1] else other for other in heap[4])


class Plain(unittest.TestCase):
    def check(self, heap, command, result, behind):
        self.assertEqual(plain(heap, ((command, result),), 1), behind)

    def test_place_0(self):
        self.assertEqual(plain(EXAMPLE, (), 0), EXAMPLE)
        self.assertEqual(plain(EXAMPLE, ((("clear", 0), None),), 0), EXAMPLE)

    def test_each_place(self):
        log = ((("clear", 0), None), (("clear", 1), None), (("end",), None))
        self.assertEqual([plain(EXAMPLE, log, place)[2] for place in range(4)],
                         [(0, 1, None), (None, 1, None), (None, None, None), (None, None, None)])

    def test_what_was_seen_is_loaded(self):
        for command in (("copy", 3, 0), ("read", 3, 1, 0), ("read", 3, 1, 1), ("lookup", 3, 0, 1), ("lookup", 3, 0, 2)):
            for result in (0, 1, 2):
                self.check(TABLE, command, result, with_parts(TABLE, (0, 1, 2, result)))
            self.check(TABLE, (command[0], 1, *command[2:]), None, with_parts(TABLE, (0, None, 2, None)))

    def test_results_that_are_no_objects(self):
        for result in (3, 5, 99, -1, True, False, "1", (1,), [], 1.0, Touchy()):
            for command in (("copy", 1, 0), ("read", 1, 1, 0), ("lookup", 1, 0, 1)):
                self.check(TABLE, command, result, with_parts(TABLE, (0, None, 2, None)))

    def test_clear_whatever_was_seen(self):
        for result in (None, 0, 2, True):
            self.check(TABLE, ("clear", 1), result, with_parts(TABLE, (0, None, 2, None)))

    def test_new_objects(self):
        for command, thing, kept in (
            (("record", 3, 2), ("record", 5, (None, None)), (2,)),
            (("table", 3), ("table", 5, ()), (2,)),
            (("weak", 3, 0), ("weak", 5, 0), (0, 2)),
        ):
            made = (*TABLE[4], thing)
            for result, held_then in ((5, 5), (1, 1), (6, None), (None, None), (True, None), (-1, None)):
                behind = with_parts(TABLE, (0, 1, 2, held_then), kept, made, 6)
                self.check(TABLE, command, result, behind)

    def test_a_new_object_that_was_not_seen_is_there(self):
        log = ((("record", 3, 0), 1), (("record", 3, 0), 6), (("copy", 2, 3), 5))
        self.assertEqual(plain(TABLE, log, 2)[1:3], (7, (0, 1, 2, 6)))
        self.assertEqual(plain(TABLE, log, 3)[2], (0, 1, 5, 6))

    def test_deref_keeps_what_was_seen(self):
        self.check(EXAMPLE, ("deref", 2, 0), 2, with_parts(EXAMPLE, (0, 1, 2), (2,)))
        self.check(EXAMPLE, ("deref", 2, 0), 3, with_parts(EXAMPLE, (0, 1, 3), (3,)))
        self.check(EXAMPLE, ("deref", 1, 0), 0, with_parts(EXAMPLE, (0, 0, None), (0,)))

    def test_deref_keeps_nothing_else(self):
        for result in (None, 4, 99, -1, True, (2,), Touchy()):
            self.check(EXAMPLE, ("deref", 1, 0), result, with_parts(EXAMPLE, (0, None, None)))

    def test_deref_of_a_cleared_one(self):
        heap = heap_of((0, None), ("weak", 0, None), ("record", 1, ()))
        self.check(heap, ("deref", 1, 0), 1, with_parts(heap, (0, 1), (1,)))
        self.check(heap, ("deref", 1, 0), None, heap)

    def test_deref_keeps_what_is_kept(self):
        heap = with_parts(EXAMPLE, kept=(1, 3))
        self.check(heap, ("deref", 2, 0), 2, with_parts(EXAMPLE, (0, 1, 2), (1, 2, 3)))
        self.check(heap, ("deref", 2, 0), None, heap)

    def test_nothing_is_condemned(self):
        log = ((("deref", 2, 1), None), (("drain",), (4,)))
        self.assertEqual(plain(EXAMPLE, log, 2), EXAMPLE)
        self.assertEqual(plain(TABLE, ((("drain",), (4, 4)),), 1), TABLE)

    def test_the_other_commands(self):
        self.check(TABLE, ("write", 1, 1, 0), None, with_parts(
            TABLE, objects=with_object(TABLE, ("record", 1, (2, 0)))))
        self.check(TABLE, ("put", 0, 2, 0), None, with_parts(
            TABLE, objects=with_object(TABLE, ("table", 0, ((1, 2), (2, 0))))))
        self.check(TABLE, ("put", 0, 1, 0), None, with_parts(
            TABLE, objects=with_object(TABLE, ("table", 0, ((1, 0),)))))
        self.check(TABLE, ("remove", 0, 1), True, with_parts(TABLE, objects=with_object(TABLE, ("table", 0, ()))))
        self.check(TABLE, ("remove", 0, 2), False, TABLE)
        self.check(TABLE, ("watch", 0, 7), None, with_parts(TABLE, watches=((1, 4), (0, 7))))
        self.check(TABLE, ("end",), None, with_parts(TABLE, kept=()))

    def test_their_results_count_for_nothing(self):
        for command in (("write", 1, 1, 0), ("put", 0, 2, 0), ("remove", 0, 1), ("watch", 0, 7), ("end",), ("drain",)):
            behind = plain(TABLE, ((command, None),), 1)
            for result in (True, False, 0, 1, 99, (), (4,), "None"):
                self.check(TABLE, command, result, behind)

    def test_commands_that_fail_change_nothing_but_what_they_load(self):
        for command in (("weak", 1, 3), ("read", 1, 0, 0), ("read", 1, 1, 2), ("read", 1, 3, 0), ("deref", 1, 0),
                        ("deref", 1, 3), ("lookup", 1, 1, 1), ("lookup", 1, 0, 3)):
            self.assertIsNotNone(reason_of(TABLE, command))
            for result, held_then in ((2, 2), (0, 0), (None, None), (5, None), (True, None)):
                self.check(TABLE, command, result, with_parts(TABLE, (0, held_then, 2, None)))
        for command in (("write", 1, 2, 0), ("write", 0, 0, 0), ("put", 0, 3, 0), ("put", 1, 1, 1), ("remove", 0, 3),
                        ("watch", 3, 0)):
            self.assertIsNotNone(reason_of(TABLE, command))
            self.check(TABLE, command, 2, TABLE)

    def test_what_was_loaded_is_used(self):
        log = ((("copy", 3, 0), 1), (("write", 3, 0, 0), None), (("copy", 3, 0), 9), (("write", 3, 0, 1), None))
        self.assertEqual(plain(TABLE, log, 4), with_parts(TABLE, objects=with_object(TABLE, ("record", 1, (0, None)))))

    def test_many_logs(self):
        words = set()
        for seed in range(200):
            heap = lively_heap(seed) if seed % 2 else random_heap(seed, most=5)
            log = wild_log(seed, heap, 10)
            for place in range(len(log) + 1):
                there = plain(heap, log, place)
                self.assertEqual(there, play_slowly(heap, log[:place]))
                if place < len(log):
                    words.add((log[place][0][0], reason_of(there, log[place][0]) is None))
        self.assertEqual(len(words), len(SHAPES) + 8)


class Held(unittest.TestCase):
    def test_the_example(self):
        log = ((("deref", 2, 1), None), (("deref", 2, 0), 2))
        self.assertEqual([held(EXAMPLE, log, place) for place in range(3)], [(0, 1, 2, 3)] * 3)
        self.assertEqual([held(EXAMPLE, log[:1], place) for place in range(2)], [(0, 1)] * 2)

    def test_the_empty_log(self):
        self.assertEqual(held(EXAMPLE, (), 0), (0, 1))

    def test_registers_fields_and_entries(self):
        self.assertEqual(held(with_parts(TABLE, kept=()), (), 0), (0, 1, 2))
        heap = heap_of((0, None), ("table", 0, ((1, 2), (0, 3))), ("record", 1, ()), ("record", 2, ()),
                       ("record", 3, (None, 4)), ("table", 4, ((3, 5), (5, 6))), ("record", 5, ()), ("weak", 6, 1))
        self.assertEqual(held(heap, (), 0), (0, 3, 4, 5, 6))

    def test_a_weak_reference_gives_what_is_held_otherwise(self):
        things = (("weak", 0, 1), ("record", 1, (2,)), ("record", 2, ()))
        self.assertEqual(held(heap_of((0,), *things), (), 0), (0,))
        self.assertEqual(held(heap_of((0,), *things, kept=(1,)), (), 0), (0, 1, 2))
        self.assertEqual(held(heap_of((None,), *things, kept=(1,)), (), 0), (1,))

    def test_what_is_held_by_kept_alone_leads_to_nothing(self):
        things = (("table", 0, ((2, 3),)), ("record", 1, (3,)), ("record", 2, ()), ("record", 3, ()))
        self.assertEqual(held(heap_of((0,), *things, kept=(2,)), (), 0), (0, 2))
        self.assertEqual(held(heap_of((2,), *things, kept=(0,)), (), 0), (0, 2))
        self.assertEqual(held(heap_of((0, 2), *things, kept=(0, 2)), (), 0), (0, 2, 3))
        self.assertEqual(held(heap_of((None,), *things, kept=(1,)), (), 0), (1,))

    def test_what_is_held_by_later_alone_leads_to_nothing(self):
        heap = heap_of((None, 0), ("weak", 0, 1), ("record", 1, (2,)), ("record", 2, ()))
        log = ((("clear", 1), None), (("copy", 0, 0), 1))
        self.assertEqual([held(heap, log, place) for place in range(3)], [(0, 1, 2), (1,), (1, 2)])

    def test_this_observation_and_later_ones_count(self):
        heap = heap_of((None,), ("record", 0, ()), ("record", 1, ()))
        log = ((("copy", 0, 0), 0), (("copy", 0, 0), 1), (("clear", 0), None), (("end",), None))
        self.assertEqual([held(heap, log, place) for place in range(5)], [(0, 1), (0, 1), (1,), (), ()])

    def test_objects_that_are_made_later_are_not_there(self):
        log = ((("end",), None), (("record", 2, 0), 4), (("clear", 2), None))
        self.assertEqual([held(EXAMPLE, log, place) for place in range(4)], [(0, 1), (0, 1), (0, 1, 4), (0, 1)])
        self.assertEqual(held(EXAMPLE, ((("copy", 2, 0), 4), (("copy", 2, 0), 99)), 0), (0, 1))

    def test_end(self):
        heap = heap_of((None, 0), ("weak", 0, 1), ("record", 1, ()), kept=(0, 1))
        log = ((("clear", 1), None), (("end",), None))
        self.assertEqual([held(heap, log, place) for place in range(3)], [(0, 1), (0, 1), ()])

    def test_many_logs(self):
        for seed in range(250):
            heap = lively_heap(seed) if seed % 2 else random_heap(seed)
            log = wild_log(seed, heap, 6)
            for place in range(len(log) + 1):
                found = held(heap, log, place)
                self.assertIs(type(found), tuple)
                self.assertEqual(found, held_slowly(heap, log, place)[0], (heap, log, place))

    def test_logs_that_were_made(self):
        for heap, log in drawn_logs(range(200)):
            for place in range(len(log) + 1):
                self.assertEqual(held(heap, log, place), held_slowly(heap, log, place)[0], (heap, log, place))


if __name__ == "__main__":
    unittest.main()
