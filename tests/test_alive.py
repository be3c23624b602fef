import unittest

from tests.samples import heap_of, random_heap, random_set, rounds_slowly
from weakcourt.alive import obtainable, reachable

EXAMPLE = heap_of(
    (0, 1, None), ("weak", 0, 2), ("weak", 1, 3), ("record", 2, (3,)), ("record", 3, ())
)


class Obtainable(unittest.TestCase):
    def test_the_example(self):
        self.assertEqual(obtainable(EXAMPLE, ()), (0, 1, 2, 3))
        self.assertEqual(obtainable(EXAMPLE, (3,)), (0, 1, 2, 3))
        self.assertEqual(obtainable(EXAMPLE, (2,)), (0, 1, 3))
        self.assertEqual(obtainable(EXAMPLE, (2, 3)), (0, 1))

    def test_no_objects(self):
        self.assertEqual(obtainable(heap_of((None,)), ()), ())
        self.assertEqual(obtainable(heap_of((None, None), next=5), ()), ())

    def test_what_nothing_leads_to(self):
        heap = heap_of((4,), ("record", 2, (4,)), ("record", 4, ()), ("weak", 7, 4))
        self.assertEqual(obtainable(heap, ()), (4,))

    def test_kept_objects_are_no_roots_and_watches_lead_nowhere(self):
        heap = heap_of((None,), ("record", 0, ()), kept=(0,), watches=((0, 1),))
        self.assertEqual(obtainable(heap, ()), ())

    def test_rings(self):
        ring = (("record", 1, (2,)), ("record", 2, (3,)), ("record", 3, (1,)))
        self.assertEqual(obtainable(heap_of((3,), *ring), ()), (1, 2, 3))
        self.assertEqual(obtainable(heap_of((None,), *ring), ()), ())
        self.assertEqual(obtainable(heap_of((0,), ("record", 0, (0,))), ()), (0,))

    def test_shared_objects(self):
        heap = heap_of((9, 5), ("record", 1, ()), ("record", 5, (1, 1)), ("record", 9, (None, 1, 5)))
        self.assertEqual(obtainable(heap, ()), (1, 5, 9))

    def test_long_chains_of_shared_objects(self):
        objects = [("record", number, (number + 1,) * 4) for number in range(59)]
        heap = heap_of((0,), *objects, ("record", 59, ()))
        self.assertEqual(obtainable(heap, ()), tuple(range(60)))

    def test_targets_in_the_set_and_not_in_it(self):
        heap = heap_of((0, 1, 2), ("weak", 0, 3), ("weak", 1, 4), ("weak", 2, None), ("record", 3, ()),
                       ("record", 4, (5,)), ("record", 5, ()))
        self.assertEqual(obtainable(heap, ()), (0, 1, 2, 3, 4, 5))
        self.assertEqual(obtainable(heap, (3,)), (0, 1, 2, 4, 5))
        self.assertEqual(obtainable(heap, (4,)), (0, 1, 2, 3))
        self.assertEqual(obtainable(heap, (5,)), (0, 1, 2, 3, 4, 5))

    def test_objects_in_the_set_lead_on(self):
        heap = heap_of((0,), ("record", 0, (1,)), ("weak", 1, 2), ("table", 2, ((0, 3),)), ("record", 3, ()))
        self.assertEqual(obtainable(heap, (0, 1, 3)), (0, 1, 2, 3))

    def test_an_object_in_a_register_and_in_the_set(self):
        heap = heap_of((0, 1), ("weak", 0, 1), ("record", 1, (2,)), ("record", 2, ()))
        self.assertEqual(obtainable(heap, (0, 1, 2)), (0, 1, 2))

    def test_values_need_table_and_key(self):
        table = ("table", 0, ((1, 2),))
        others = (("record", 1, ()), ("record", 2, ()))
        self.assertEqual(obtainable(heap_of((0,), table, *others), ()), (0,))
        self.assertEqual(obtainable(heap_of((1,), table, *others), ()), (1,))
        self.assertEqual(obtainable(heap_of((0, 1), table, *others), ()), (0, 1, 2))
        self.assertEqual(obtainable(heap_of((0, 2), table, *others), ()), (0, 2))

    def test_keys_that_are_obtained_late(self):
        heap = heap_of(
            (0, 1),
            ("table", 0, ((4, 5), (6, 7), (0, 6))),
            ("record", 1, (2,)),
            ("record", 2, (3,)),
            ("weak", 3, 4),
            ("record", 4, ()),
            ("record", 5, ()),
            ("record", 6, ()),
            ("record", 7, ()),
        )
        self.assertEqual(obtainable(heap, ()), (0, 1, 2, 3, 4, 5, 6, 7))
        self.assertEqual(obtainable(heap, (4,)), (0, 1, 2, 3, 6, 7))

    def test_a_key_that_only_its_own_value_leads_to(self):
        heap = heap_of((0,), ("table", 0, ((1, 2),)), ("record", 1, ()), ("record", 2, (1,)))
        self.assertEqual(obtainable(heap, ()), (0,))

    def test_keys_of_one_table_that_another_one_has(self):
        heap = heap_of((0, 1), ("table", 0, ((2, 3),)), ("table", 1, ((0, 2), (3, 4))), ("record", 2, ()),
                       ("record", 3, ()), ("record", 4, ()))
        self.assertEqual(obtainable(heap, ()), (0, 1, 2, 3, 4))

    def test_many_heaps(self):
        for seed in range(500):
            heap = random_heap(seed)
            condemned = random_set(seed, heap)
            with self.subTest(heap=heap, condemned=condemned):
                self.assertEqual(obtainable(heap, condemned), tuple(sorted(rounds_slowly(heap, condemned))))


class Reachable(unittest.TestCase):
    def test_the_example(self):
        self.assertEqual(reachable(EXAMPLE), (0, 1))

    def test_no_weak_reference_leads_on(self):
        heap = heap_of((2, 0), ("weak", 0, 1), ("record", 1, ()), ("record", 2, (3,)), ("weak", 3, 2))
        self.assertEqual(reachable(heap), (0, 2, 3))

    def test_entries_lead_on(self):
        heap = heap_of((3,), ("record", 0, ()), ("weak", 1, 0), ("record", 2, ()), ("table", 3, ((3, 1), (1, 2))))
        self.assertEqual(reachable(heap), (1, 2, 3))

    def test_no_objects(self):
        self.assertEqual(reachable(heap_of((None,))), ())

    def test_many_heaps(self):
        for seed in range(500):
            heap = random_heap(seed)
            everything = tuple(thing[1] for thing in heap[4])
            with self.subTest(heap=heap):
                self.assertEqual(reachable(heap), tuple(sorted(rounds_slowly(heap, everything))))


class Kinds(unittest.TestCase):
    def test_they_are_tuples(self):
        self.assertIs(type(obtainable(EXAMPLE, ())), tuple)
        self.assertIs(type(reachable(EXAMPLE)), tuple)


if __name__ == "__main__":
    unittest.main()
