import unittest

from tests.samples import heap_of, numbers_in, random_heap, reachable_slowly
from weakcourt.alive import reachable
from weakcourt.retaining import dominators, retained


def all_retained(heap):
    return {number: retained(heap, number) for number in numbers_in(heap) if retained(heap, number)}


class Retained(unittest.TestCase):
    def test_a_chain(self):
        heap = heap_of((2,), ("record", 0, ()), ("record", 1, (0,)), ("record", 2, (1,)))
        self.assertEqual(all_retained(heap), {0: (0,), 1: (0, 1), 2: (0, 1, 2)})
        self.assertEqual([dominators(heap, number) for number in range(3)], [(0, 1, 2), (1, 2), (2,)])

    def test_rings(self):
        ring = (("record", 0, (1,)), ("record", 1, (2,)), ("record", 2, (0,)))
        self.assertEqual(all_retained(heap_of((1,), *ring)), {0: (0,), 1: (0, 1, 2), 2: (0, 2)})
        self.assertEqual(all_retained(heap_of((1, 2), *ring)), {0: (0,), 1: (1,), 2: (0, 2)})
        self.assertEqual(all_retained(heap_of((None,), *ring)), {})
        self.assertEqual(retained(heap_of((0,), ("record", 0, (0, 0))), 0), (0,))

    def test_shared_objects(self):
        heap = heap_of((0,), ("record", 0, (1, 2)), ("record", 1, (3,)), ("record", 2, (3, 4)),
                       ("record", 3, ()), ("record", 4, ()))
        self.assertEqual(
            all_retained(heap), {0: (0, 1, 2, 3, 4), 1: (1,), 2: (2, 4), 3: (3,), 4: (4,)}
        )
        self.assertEqual(dominators(heap, 3), (0, 3))
        self.assertEqual(dominators(heap, 4), (0, 2, 4))

    def test_an_object_that_nothing_leads_to(self):
        heap = heap_of((1,), ("record", 0, (1, 2)), ("record", 1, ()), ("record", 2, ()))
        self.assertEqual((retained(heap, 0), dominators(heap, 0)), ((), ()))
        self.assertEqual((retained(heap, 2), dominators(heap, 2)), ((), ()))
        self.assertEqual((retained(heap, 1), dominators(heap, 1)), ((1,), (1,)))

    def test_an_object_in_several_registers(self):
        heap = heap_of((0, None, 0), ("record", 0, (1,)), ("record", 1, ()))
        self.assertEqual((retained(heap, 0), dominators(heap, 0)), ((0, 1), (0,)))
        heap = heap_of((0, 1, 0), ("record", 0, (1,)), ("record", 1, ()))
        self.assertEqual((retained(heap, 0), dominators(heap, 1)), ((0,), (1,)))

    def test_tables_keys_and_values(self):
        things = (("table", 0, ((1, 2), (3, 1))), ("record", 1, ()), ("record", 2, ()), ("record", 3, ()))
        self.assertEqual(
            all_retained(heap_of((0, 3), *things)), {0: (0, 1, 2), 1: (1, 2), 2: (2,), 3: (1, 2, 3)}
        )
        self.assertEqual(all_retained(heap_of((0, 3, 1), *things)), {0: (0, 2), 1: (1, 2), 2: (2,), 3: (3,)})
        self.assertEqual(all_retained(heap_of((0, 1), *things)), {0: (0, 2), 1: (1, 2), 2: (2,)})
        self.assertEqual(dominators(heap_of((0, 3), *things), 2), (0, 1, 2, 3))

    def test_one_value_by_two_keys(self):
        heap = heap_of((0, 1, 2), ("table", 0, ((1, 3), (2, 3))), ("record", 1, ()), ("record", 2, ()),
                       ("record", 3, ()))
        self.assertEqual(all_retained(heap), {0: (0, 3), 1: (1,), 2: (2,), 3: (3,)})

    def test_a_value_that_is_left_out_is_no_key_of_another_entry_either(self):
        heap = heap_of((0,), ("table", 0, ((0, 1), (1, 2), (2, 3))), ("record", 1, ()), ("record", 2, ()),
                       ("record", 3, ()))
        self.assertEqual(all_retained(heap), {0: (0, 1, 2, 3), 1: (1, 2, 3), 2: (2, 3), 3: (3,)})

    def test_targets_are_not_retained(self):
        heap = heap_of((0, 2), ("weak", 0, 1), ("record", 1, ()), ("weak", 2, 3), ("record", 3, ()))
        self.assertEqual(all_retained(heap), {0: (0,), 2: (2,)})
        heap = heap_of((0, 1), ("weak", 0, 2), ("record", 1, (2,)), ("record", 2, ()))
        self.assertEqual((retained(heap, 0), dominators(heap, 2)), ((0,), (1, 2)))

    def test_kept_objects_are_no_roots(self):
        heap = heap_of((0,), ("record", 0, (1,)), ("record", 1, ()), kept=(1,), watches=((1, 3),))
        self.assertEqual(all_retained(heap), {0: (0, 1), 1: (1,)})

    def test_many_heaps(self):
        for seed in range(400):
            heap = random_heap(seed)
            before = reachable_slowly(heap)
            for number in numbers_in(heap):
                lost = before - reachable_slowly(heap, number)
                with self.subTest(heap=heap, number=number):
                    self.assertEqual(retained(heap, number), tuple(sorted(lost)))
                    self.assertEqual(
                        dominators(heap, number),
                        tuple(n for n in numbers_in(heap) if number in before - reachable_slowly(heap, n)),
                    )
                    self.assertEqual(number in retained(heap, number), number in reachable(heap))

    def test_kinds(self):
        heap = heap_of((0,), ("record", 0, ()))
        self.assertEqual([type(retained(heap, 0)), type(dominators(heap, 0))], [tuple, tuple])


if __name__ == "__main__":
    unittest.main()
