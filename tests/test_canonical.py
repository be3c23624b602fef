import unittest

from tests.samples import heap_of, marking_slowly, numbered_otherwise, numbers_in, random_heap, reachable_slowly
from weakcourt.canonical import canonical, marking, same
from weakcourt.text import format_heap, parse_heap


def records(*numbers):
    return [("record", number, ()) for number in numbers]


# Something of each kind that is reachable, and something that is not: 3 and 8 are not.
WHOLE = heap_of(
    (9, None, 4, 9),
    ("record", 1, (None, 6)),
    ("record", 2, ()),
    ("record", 3, (2,)),
    ("table", 4, ((8, 2), (2, 1), (6, 9), (9, 2))),
    ("weak", 5, 3),
    ("weak", 6, 2),
    ("weak", 7, None),
    ("weak", 8, 4),
    ("record", 9, (7, 5)),
    next=40,
    kept=(1, 3, 4, 9),
    watches=((1, 5), (8, 3), (4, 0), (1, 2), (3, 1), (1, 5)),
)

# In marking order 9 4 7 5 2 1 6: the value 2 comes in as table 4 is scanned, as the key 9 was scanned before.
WHOLE_CANONICAL = heap_of(
    (0, None, 1, 0),
    ("record", 0, (2, 3)),
    ("table", 1, ((4, 5), (6, 0), (0, 4))),
    ("weak", 2, None),
    ("weak", 3, None),
    ("record", 4, ()),
    ("record", 5, (None, 6)),
    ("weak", 6, 4),
    kept=(0, 1, 5),
    watches=((5, 5), (1, 0), (5, 2), (5, 5)),
)


class Marking(unittest.TestCase):
    def test_registers_each_once(self):
        heap = heap_of((7, None, 3, 7, 5, 3), *records(3, 5, 7, 8))
        self.assertEqual(marking(heap), (7, 3, 5))
        self.assertEqual(marking(heap_of((None, None), *records(1))), ())

    def test_fields_level_by_level(self):
        heap = heap_of((5, 1), ("record", 1, (9, 2)), ("record", 2, ()), ("record", 3, (4,)), ("record", 4, ()),
                       ("record", 5, (3, None, 9, 5)), ("record", 6, (1,)), ("record", 9, (6,)))
        self.assertEqual(marking(heap), (5, 1, 3, 9, 2, 4, 6))

    def test_weak_references_lead_nowhere(self):
        heap = heap_of((0,), ("weak", 0, 1), ("record", 1, ()))
        self.assertEqual(marking(heap), (0,))

    def test_the_key_is_scanned_behind_the_table(self):
        heap = heap_of((3, 1), ("record", 0, ()), ("record", 1, (2,)), ("record", 2, ()), ("table", 3, ((1, 0),)))
        self.assertEqual(marking(heap), (3, 1, 2, 0))

    def test_the_table_is_scanned_behind_the_key(self):
        heap = heap_of((1, 3), ("record", 0, ()), ("record", 1, (2,)), ("record", 2, ()), ("table", 3, ((1, 0),)))
        self.assertEqual(marking(heap), (1, 3, 2, 0))
        heap = heap_of((1, 3, 4), ("record", 0, ()), *records(1), ("record", 2, ()), ("table", 3, ((1, 0),)),
                       ("record", 4, (2,)))
        self.assertEqual(marking(heap), (1, 3, 4, 0, 2))

    def test_a_key_that_is_found_but_not_scanned_yet(self):
        heap = heap_of((0, 1, 2), ("table", 0, ((2, 3),)), ("record", 1, (4,)), *records(2, 3, 4))
        self.assertEqual(marking(heap), (0, 1, 2, 4, 3))

    def test_fields_come_ahead_of_values(self):
        heap = heap_of((0, 1), ("table", 0, ((1, 2),)), ("record", 1, (3,)), *records(2, 3))
        self.assertEqual(marking(heap), (0, 1, 3, 2))

    def test_entries_in_their_order(self):
        heap = heap_of((9, 8, 0), ("table", 0, ((8, 4), (9, 3), (0, 1), (7, 2))), *records(1, 2, 3, 4, 7, 8, 9))
        self.assertEqual(marking(heap), (9, 8, 0, 4, 3, 1))

    def test_several_tables_with_one_key(self):
        tables = [("table", 0, ((5, 2), (9, 1))), ("table", 3, ((5, 4),)), ("table", 6, ((5, 7),))]
        others = records(1, 2, 4, 5, 7)
        self.assertEqual(marking(heap_of((6, 3, 0, 5), *tables, *others)), (6, 3, 0, 5, 7, 4, 2))
        self.assertEqual(marking(heap_of((3, 0, 5, 6), *tables, *others)), (3, 0, 5, 6, 4, 2, 7))

    def test_an_older_table_comes_ahead_of_the_one_that_is_scanned(self):
        heap = heap_of((5, 2), ("record", 0, ()), ("record", 1, ()), ("table", 2, ((2, 0),)),
                       ("table", 5, ((2, 1),)))
        self.assertEqual(marking(heap), (5, 2, 1, 0))

    def test_a_table_that_is_its_own_key(self):
        heap = heap_of((4,), *records(1), ("table", 4, ((4, 1),)))
        self.assertEqual(marking(heap), (4, 1))

    def test_a_table_found_by_an_entry_of_another_one(self):
        heap = heap_of((0, 1), ("table", 0, ((1, 2),)), *records(1), ("table", 2, ((0, 3), (1, 4))), *records(3, 4))
        self.assertEqual(marking(heap), (0, 1, 2, 3, 4))

    def test_the_whole_heap(self):
        self.assertEqual(marking(WHOLE), (9, 4, 7, 5, 2, 1, 6))

    def test_many_heaps(self):
        for seed in range(600):
            heap = random_heap(seed)
            with self.subTest(heap=heap):
                self.assertEqual(marking(heap), marking_slowly(heap))
                self.assertEqual(sorted(marking(heap)), sorted(reachable_slowly(heap)))


class Canonical(unittest.TestCase):
    def test_the_whole_heap(self):
        self.assertEqual(canonical(WHOLE), WHOLE_CANONICAL)

    def test_next_is_the_number_of_objects(self):
        self.assertEqual(canonical(heap_of((None,), next=7)), heap_of((None,)))
        self.assertEqual(canonical(heap_of((6, None), *records(2, 6), next=9)), heap_of((0, None), *records(0)))

    def test_empty_registers_stay(self):
        heap = heap_of((None, 4, None), *records(4))
        self.assertEqual(canonical(heap), heap_of((None, 0, None), *records(0)))

    def test_weak_references(self):
        heap = heap_of((3, 1, 2), *records(0), ("weak", 1, 0), ("weak", 2, 3), ("weak", 3, None))
        self.assertEqual(canonical(heap), heap_of((0, 1, 2), ("weak", 0, None), ("weak", 1, None), ("weak", 2, 0)))

    def test_entries_keep_their_order(self):
        heap = heap_of((5, 3, 2), *records(1, 2, 3), ("table", 5, ((2, 3), (1, 3), (3, 2), (5, 5))))
        self.assertEqual(
            canonical(heap), heap_of((0, 1, 2), ("table", 0, ((2, 1), (1, 2), (0, 0))), *records(1, 2))
        )

    def test_an_unreachable_key_with_a_reachable_value(self):
        heap = heap_of((1, 0), *records(0), ("table", 1, ((2, 0),)), *records(2))
        self.assertEqual(canonical(heap), heap_of((0, 1), ("table", 0, ()), *records(1)))

    def test_kept_objects_rise(self):
        heap = heap_of((7, 5, 3), *records(2, 3, 5, 7), kept=(2, 3, 7))
        self.assertEqual(canonical(heap), heap_of((0, 1, 2), *records(0, 1, 2), kept=(0, 2)))

    def test_watches_stay_in_order_with_their_tokens(self):
        heap = heap_of((7, 5), *records(2, 5, 7), watches=((5, 9), (2, 8), (7, 9), (5, 0)))
        self.assertEqual(
            canonical(heap), heap_of((0, 1), *records(0, 1), watches=((1, 9), (0, 9), (1, 0)))
        )

    def test_a_canonical_heap_is_its_own_one(self):
        for seed in range(300):
            heap = canonical(random_heap(seed))
            with self.subTest(heap=heap):
                self.assertEqual(canonical(heap), heap)
                self.assertEqual(numbers_in(heap), tuple(range(heap[1])))
                self.assertEqual(parse_heap(format_heap(heap)), heap)

    def test_each_part_by_its_words(self):
        for seed in range(300):
            heap = random_heap(seed)
            order = marking_slowly(heap)
            found = canonical(heap)
            old = dict(enumerate(order))
            old[None] = None
            things = {thing[1]: thing for thing in heap[4]}
            with self.subTest(heap=heap):
                self.assertEqual(found[:2], ("heap", len(order)))
                self.assertEqual(tuple(old[held] for held in found[2]), heap[2])
                self.assertEqual(sorted(old[number] for number in found[3]), [n for n in heap[3] if n in order])
                self.assertEqual(
                    [(old[number], token) for number, token in found[5]],
                    [(number, token) for number, token in heap[5] if number in order],
                )
                for kind, number, inside in found[4]:
                    before = things[old[number]]
                    self.assertEqual(kind, before[0])
                    if kind == "record":
                        self.assertEqual(tuple(old[held] for held in inside), before[2])
                    elif kind == "weak":
                        self.assertEqual(old[inside], before[2] if before[2] in order else None)
                    else:
                        self.assertEqual(
                            [(old[key], old[value]) for key, value in inside],
                            [(key, value) for key, value in before[2] if key in order],
                        )


class Same(unittest.TestCase):
    def test_a_heap_numbered_otherwise(self):
        for seed in range(300):
            heap = random_heap(seed)
            other = numbered_otherwise(heap, seed)
            with self.subTest(heap=heap, other=other):
                self.assertEqual(canonical(other), canonical(heap))
                self.assertIs(same(heap, other), True)
                self.assertIs(same(other, canonical(heap)), True)

    def test_what_is_not_reachable_does_not_matter(self):
        word, following, registers, kept, objects, watches = WHOLE
        others = tuple(thing for thing in objects if thing[1] not in (3, 8))
        changed = {4: ("table", 4, ((2, 1), (6, 9), (9, 2))), 5: ("weak", 5, None)}
        less = tuple(changed.get(thing[1], thing) for thing in others)
        left = tuple(watch for watch in watches if watch[0] not in (3, 8))
        self.assertIs(same(WHOLE, ("heap", 41, registers, (1, 4, 9), less, left)), True)

    def test_each_thing_changed_in_turn(self):
        word, following, registers, kept, objects, watches = WHOLE

        def changed(*things):
            named = {thing[1]: thing for thing in things}
            return (word, following, registers, kept, tuple(named.get(thing[1], thing) for thing in objects), watches)

        others = [
            (word, following, (9, None, 4, 4), kept, objects, watches),
            (word, following, (4, None, 9, 9), kept, objects, watches),
            (word, following, (9, None, 4), kept, objects, watches),
            (word, following, (9, None, 4, None), kept, objects, watches),
            (word, following, (9, None, 4, 9, None), kept, objects, watches),
            (word, following, (9, 3, 4, 9), kept, objects, watches),
            (word, following, registers, (1, 3, 9), objects, watches),
            (word, following, registers, (1, 3, 4, 5, 9), objects, watches),
            (word, following, registers, (2, 3, 4, 9), objects, watches),
            (word, following, registers, kept, objects, watches[:-1]),
            (word, following, registers, kept, objects, (watches[3], *watches[1:3], watches[0], *watches[4:])),
            (word, following, registers, kept, objects, ((1, 6), *watches[1:])),
            (word, following, registers, kept, objects, ((2, 5), *watches[1:])),
            (word, following, registers, kept, objects, (*watches, (7, 5))),
            changed(("record", 1, (6, None))),
            changed(("record", 1, (None, 6, None))),
            changed(("record", 2, (None,))),
            changed(("table", 2, ())),
            changed(("weak", 2, None)),
            changed(("table", 4, ((8, 2), (2, 1), (9, 2), (6, 9)))),
            changed(("table", 4, ((8, 2), (2, 1), (6, 9), (9, 2), (1, 1)))),
            changed(("table", 4, ((8, 2), (2, 1), (9, 2)))),
            changed(("table", 4, ((8, 2), (2, 1), (6, 1), (9, 2)))),
            changed(("weak", 5, 9)),
            changed(("weak", 6, None)),
            changed(("weak", 6, 1)),
            changed(("weak", 7, 7)),
            changed(("record", 9, (5, 7, None))),
            changed(("record", 9, (7, None))),
            changed(("record", 9, (7, 5, 3))),
        ]
        for other in others:
            with self.subTest(other=other):
                self.assertIs(same(WHOLE, other), False)
                self.assertIs(same(other, WHOLE), False)
                self.assertIs(same(other, other), True)

    def test_a_ring_begun_at_another_place(self):
        ring = (("record", 0, (1,)), ("record", 1, (2,)), ("record", 2, (0,)))
        self.assertIs(same(heap_of((0,), *ring), heap_of((2,), *ring)), True)
        self.assertIs(same(heap_of((0, 1), *ring), heap_of((2, 0), *ring)), True)
        self.assertIs(same(heap_of((0, 1), *ring), heap_of((0, 2), *ring)), False)


class Kinds(unittest.TestCase):
    def test_they_are_tuples(self):
        self.assertIs(type(marking(WHOLE)), tuple)
        found = canonical(WHOLE)
        self.assertEqual([type(part) for part in (found, *found[2:], *found[4])], [tuple] * 12)


if __name__ == "__main__":
    unittest.main()
