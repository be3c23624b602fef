import unittest

from tests.samples import all_condemnable, heap_of, is_condemnable_slowly, numbers_in, random_heap, random_set, subsets
from weakcourt.alive import obtainable
from weakcourt.commands import do
from weakcourt.condemning import along, condemn, greatest, is_condemnable
from weakcourt.derivations import compile_derivation, derive, with_registers
from weakcourt.text import format_heap, parse_heap

EXAMPLE = heap_of(
    (0, 1, None), ("weak", 0, 2), ("weak", 1, 3), ("record", 2, (3,)), ("record", 3, ())
)

# 2 and 7 can be condemned together: each way in which another object can refer to them stands here.
FULL = heap_of(
    (0, 5, None),
    ("table", 0, ((7, 1), (1, 7), (5, 5), (3, 2), (2, 3))),
    ("record", 1, (2, None, 7, 3)),
    ("weak", 2, 7),
    ("weak", 3, 2),
    ("table", 4, ((2, 7), (5, 2), (7, 5), (1, 3))),
    ("weak", 5, 7),
    ("weak", 6, 3),
    ("record", 7, (2, 7)),
    next=30,
    kept=(1, 5),
    watches=((7, 3), (5, 1), (2, 3), (7, 0), (1, 9), (7, 3)),
)


def condemnable_sets(heap):
    return [part for part in subsets(numbers_in(heap)) if is_condemnable(heap, part)]


class IsCondemnable(unittest.TestCase):
    def test_the_example(self):
        self.assertEqual(condemnable_sets(EXAMPLE), [(), (2,), (2, 3)])

    def test_the_empty_set(self):
        self.assertIs(is_condemnable(EXAMPLE, ()), True)
        self.assertIs(is_condemnable(heap_of((None,)), ()), True)

    def test_kept_objects(self):
        heap = heap_of((None,), ("record", 0, (1,)), ("record", 1, ()), kept=(0,))
        self.assertEqual(condemnable_sets(heap), [(), (1,)])

    def test_objects_in_registers_and_what_they_lead_to(self):
        heap = heap_of((None, 1), ("record", 0, ()), ("record", 1, (2,)), ("record", 2, (None,)))
        self.assertEqual(condemnable_sets(heap), [(), (0,)])

    def test_what_only_weak_references_of_others_lead_to(self):
        heap = heap_of((0,), ("weak", 0, 1), ("record", 1, (2,)), ("record", 2, ()))
        self.assertEqual(condemnable_sets(heap), [(), (1,), (1, 2)])

    def test_two_weak_references_to_one_object(self):
        heap = heap_of((0, 1), ("weak", 0, 2), ("weak", 1, 2), ("record", 2, ()))
        self.assertEqual(condemnable_sets(heap), [(), (2,)])

    def test_one_of_two_ways_is_enough_to_get_it(self):
        heap = heap_of((0, 1), ("weak", 0, 2), ("weak", 1, 3), ("record", 2, (4,)), ("record", 3, (4,)),
                       ("record", 4, ()))
        self.assertEqual(condemnable_sets(heap), [(), (2,), (3,), (2, 3), (2, 3, 4)])

    def test_weak_references_to_one_another(self):
        pair = (("weak", 0, 1), ("weak", 1, 0))
        self.assertEqual(condemnable_sets(heap_of((None,), *pair)), [(), (0,), (1,), (0, 1)])
        self.assertEqual(condemnable_sets(heap_of((0,), *pair)), [(), (1,)])
        chain = (("weak", 0, 1), ("weak", 1, 2), ("weak", 2, 1))
        self.assertEqual(condemnable_sets(heap_of((0,), *chain)), [(), (1,), (2,), (1, 2)])

    def test_keys_and_values(self):
        things = (("table", 0, ((1, 2),)), ("record", 1, ()), ("record", 2, ()), ("weak", 3, 1))
        everything = [(), (1,), (2,), (3,), (1, 2), (1, 3), (2, 3), (1, 2, 3)]
        self.assertEqual(condemnable_sets(heap_of((0,), *things)), everything)
        self.assertEqual(condemnable_sets(heap_of((0, 1), *things)), [(), (3,)])
        self.assertEqual(condemnable_sets(heap_of((0, 3), *things)), [(), (1,), (1, 2)])
        self.assertEqual(
            condemnable_sets(heap_of((3, 1), *things)), [(), (0,), (2,), (0, 2)]
        )

    def test_a_value_that_leads_to_its_own_key(self):
        heap = heap_of((0,), ("table", 0, ((1, 2),)), ("record", 1, ()), ("record", 2, (1,)))
        self.assertEqual(condemnable_sets(heap), [(), (1,), (2,), (1, 2)])

    def test_all_subsets_of_many_heaps(self):
        for seed in range(250):
            heap = random_heap(seed, most=6)
            with self.subTest(heap=heap):
                self.assertEqual(condemnable_sets(heap), all_condemnable(heap))

    def test_sets_of_larger_heaps(self):
        for seed in range(300):
            heap = random_heap(seed)
            numbers = random_set(seed, heap)
            with self.subTest(heap=heap, numbers=numbers):
                self.assertIs(is_condemnable(heap, numbers), is_condemnable_slowly(heap, numbers))


class Greatest(unittest.TestCase):
    def test_the_example(self):
        self.assertEqual(greatest(EXAMPLE, (0, 1, 2, 3)), (2, 3))
        self.assertEqual(greatest(EXAMPLE, (2, 3)), (2, 3))
        self.assertEqual(greatest(EXAMPLE, (1, 2)), (2,))
        self.assertEqual(greatest(EXAMPLE, (3,)), ())
        self.assertEqual(greatest(EXAMPLE, ()), ())

    def test_it_rises_whatever_the_order_of_the_candidates(self):
        heap = heap_of((None,), *[("record", number, ()) for number in range(12)])
        self.assertEqual(greatest(heap, (11, 3, 7, 0)), (0, 3, 7, 11))
        self.assertEqual(greatest(heap, (11, 3, 3, 11)), (3, 11))

    def test_kept_candidates_are_taken_out_first(self):
        heap = heap_of((0,), ("weak", 0, 1), ("record", 1, (2,)), ("weak", 2, 3), ("record", 3, ()), kept=(1,))
        self.assertEqual(greatest(heap, (0, 1, 2, 3)), (3,))
        heap = heap_of((0,), ("weak", 0, 1), ("weak", 1, 2), ("record", 2, ()), kept=(2,))
        self.assertEqual(greatest(heap, (1, 2)), (1,))

    def test_what_is_no_candidate_gives_its_targets(self):
        heap = heap_of((0,), ("weak", 0, 1), ("weak", 1, 2), ("record", 2, (3,)), ("record", 3, ()))
        self.assertEqual(greatest(heap, (2, 3)), (2, 3))
        self.assertEqual(greatest(heap, (1, 3)), (1, 3))
        self.assertEqual(greatest(heap, (3,)), ())

    def test_it_is_condemnable_and_has_every_condemnable_subset(self):
        for seed in range(200):
            heap = random_heap(seed, most=6)
            fitting = all_condemnable(heap)
            for candidates in subsets(numbers_in(heap)):
                union = {number for part in fitting if set(part) <= set(candidates) for number in part}
                found = greatest(heap, candidates)
                with self.subTest(heap=heap, candidates=candidates):
                    self.assertEqual(found, tuple(sorted(union)))
                    self.assertTrue(is_condemnable(heap, found))


class Along(unittest.TestCase):
    def test_the_example(self):
        self.assertEqual([along(EXAMPLE, number) for number in range(4)], [None, None, (2,), (2, 3)])

    def test_one_of_two_is_no_must(self):
        heap = heap_of((0,), ("weak", 0, 1), ("weak", 1, 2), ("record", 2, (3,)), ("record", 3, ()))
        self.assertEqual(along(heap, 3), (3,))
        self.assertFalse(is_condemnable(heap, (3,)))

    def test_what_is_kept_does_not_go(self):
        things = (("weak", 0, 1), ("weak", 1, 2), ("record", 2, (3,)), ("record", 3, ()))
        self.assertEqual(along(heap_of((0,), *things, kept=(1,)), 3), (2, 3))
        self.assertEqual(along(heap_of((0,), *things, kept=(2,)), 3), (1, 3))
        self.assertIsNone(along(heap_of((0,), *things, kept=(1, 2)), 3))
        self.assertIsNone(along(heap_of((0,), *things, kept=(3,)), 3))

    def test_what_nothing_leads_to_goes_alone(self):
        heap = heap_of((None,), ("record", 0, (1,)), ("record", 1, (0,)))
        self.assertEqual((along(heap, 0), along(heap, 1)), ((0,), (1,)))

    def test_values_go_without_their_tables(self):
        heap = heap_of((0, 1), ("weak", 0, 3), ("weak", 1, 2), ("table", 2, ((3, 4),)), ("record", 3, ()),
                       ("record", 4, ()))
        self.assertEqual(along(heap, 4), (4,))
        self.assertEqual(condemnable_sets(heap), [(), (2,), (3,), (2, 3), (2, 4), (3, 4), (2, 3, 4)])

    def test_it_is_what_all_sets_with_the_object_have_in_common(self):
        for seed in range(400):
            heap = random_heap(seed, most=6)
            fitting = all_condemnable(heap)
            for number in numbers_in(heap):
                parts = [set(part) for part in fitting if number in part]
                common = tuple(sorted(set.intersection(*parts))) if parts else None
                with self.subTest(heap=heap, number=number):
                    self.assertEqual(along(heap, number), common)


class Condemn(unittest.TestCase):
    def test_everything_at_once(self):
        self.assertTrue(is_condemnable(FULL, (2, 7)))
        self.assertEqual(
            condemn(FULL, (2, 7)),
            (
                heap_of(
                    (0, 5, None),
                    ("table", 0, ((5, 5),)),
                    ("record", 1, (None, None, None, 3)),
                    ("weak", 3, None),
                    ("table", 4, ((1, 3),)),
                    ("weak", 5, None),
                    ("weak", 6, 3),
                    next=30,
                    kept=(1, 5),
                    watches=((5, 1), (1, 9)),
                ),
                (3, 5),
                ((0, 7), (0, 2), (4, 2), (4, 7)),
                (3, 3, 0, 3),
            ),
        )

    def test_the_empty_set(self):
        self.assertEqual(condemn(FULL, ()), (FULL, (), (), ()))

    def test_one_after_the_other_in_any_order(self):
        for numbers in ((2, 7), (7, 2)):
            self.assertEqual(condemn(FULL, numbers), condemn(FULL, (2, 7)))

    def test_only_other_objects_are_told(self):
        heap = heap_of((None,), ("weak", 0, 1), ("table", 1, ((0, 1), (1, 0), (2, 0))), ("record", 2, ()))
        self.assertEqual(condemn(heap, (0, 1)), (heap_of((None,), ("record", 2, ()), next=3), (), (), ()))

    def test_a_cleared_reference_is_not_cleared_again(self):
        heap = heap_of((0,), ("weak", 0, None), ("record", 1, ()))
        self.assertEqual(condemn(heap, (1,)), (heap_of((0,), ("weak", 0, None), next=2), (), (), ()))

    def test_an_entry_with_a_condemned_value_alone_is_not_told(self):
        heap = heap_of((0,), ("table", 0, ((1, 2),)), ("record", 1, ()), ("record", 2, ()))
        self.assertEqual(
            condemn(heap, (2,)), (heap_of((0,), ("table", 0, ()), ("record", 1, ()), next=3), (), (), ())
        )
        self.assertEqual(
            condemn(heap, (1,)), (heap_of((0,), ("table", 0, ()), ("record", 2, ())), (), ((0, 1),), ())
        )

    def test_next_stays(self):
        heap = heap_of((None,), ("record", 0, ()), ("record", 8, ()))
        self.assertEqual(condemn(heap, (8,))[0], heap_of((None,), ("record", 0, ()), next=9))
        self.assertEqual(condemn(heap, (0, 8))[0], heap_of((None,), next=9))

    def test_tokens_in_the_order_of_the_watches(self):
        things = [("record", number, ()) for number in range(3)]
        heap = heap_of((None,), *things, watches=((2, 5), (0, 7), (2, 1), (1, 4), (0, 5), (2, 5)))
        self.assertEqual(condemn(heap, (0, 2))[3], (5, 7, 1, 5, 5))
        self.assertEqual(condemn(heap, (0, 2))[0][5], ((1, 4),))

    def test_what_is_behind_it_is_a_heap(self):
        for seed in range(300):
            heap = random_heap(seed)
            behind = condemn(heap, greatest(heap, random_set(seed, heap)))[0]
            with self.subTest(heap=heap):
                self.assertEqual(parse_heap(format_heap(behind)), behind)

    def test_each_part_by_its_words(self):
        for seed in range(300):
            heap = random_heap(seed)
            gone = greatest(heap, random_set(seed, heap))
            behind, cleared, removed, tokens = condemn(heap, gone)
            rows = [(watch, watch[0] in gone) for watch in heap[5]]
            staying = {thing[1]: thing for thing in heap[4] if thing[1] not in gone}
            entries = [(number, pair) for number in staying if staying[number][0] == "table"
                       for pair in staying[number][2]]
            left = {thing[1]: thing for thing in behind[4]}
            with self.subTest(heap=heap, gone=gone):
                self.assertEqual(behind[:4], heap[:4])
                self.assertEqual(list(left), list(staying))
                self.assertEqual(behind[5], tuple(watch for watch, condemned in rows if not condemned))
                self.assertEqual(tokens, tuple(watch[1] for watch, condemned in rows if condemned))
                self.assertEqual(
                    cleared, tuple(n for n in staying if staying[n][0] == "weak" and left[n] != staying[n])
                )
                self.assertEqual(removed, tuple((n, pair[0]) for n, pair in entries if pair[0] in gone))
                self.assertEqual(
                    [(n, pair) for n in left if left[n][0] == "table" for pair in left[n][2]],
                    [(n, pair) for n, pair in entries if not set(pair) & set(gone)],
                )
                for number, thing in left.items():
                    if thing[0] == "record":
                        fields = tuple(None if held in gone else held for held in staying[number][2])
                        self.assertEqual(thing, ("record", number, fields))

    def test_in_two_steps_as_at_once(self):
        for seed in range(150):
            heap = random_heap(seed, most=6)
            fitting = all_condemnable(heap)
            for first in fitting:
                behind, _, _, tokens = condemn(heap, first)
                others = [part for part in subsets(numbers_in(behind)) if is_condemnable(behind, part)]
                at_once = [tuple(sorted(first + part)) for part in others]
                with self.subTest(heap=heap, first=first):
                    self.assertEqual(sorted(at_once), sorted(part for part in fitting if set(first) <= set(part)))
                for part, both in zip(others, at_once):
                    last, _, _, more = condemn(behind, part)
                    told = condemn(heap, both)
                    with self.subTest(heap=heap, first=first, part=part):
                        self.assertEqual(last, told[0])
                        self.assertEqual(sorted(tokens + more), sorted(told[3]))


class WayOn(unittest.TestCase):
    def test_what_is_obtainable_can_be_loaded_behind_condemning(self):
        for seed in range(200):
            heap = random_heap(seed)
            gone = greatest(heap, random_set(seed, heap))
            behind = condemn(heap, gone)[0]
            self.assertEqual(obtainable(behind, ()), obtainable(heap, gone))
            for number in obtainable(heap, gone):
                steps = derive(heap, gone, number)
                state = ("state", with_registers(behind, len(steps)), ())
                for command in compile_derivation(heap, steps):
                    state, _ = do(state, command)
                with self.subTest(heap=heap, gone=gone, number=number):
                    self.assertEqual(state[1][2], heap[2] + tuple(step[0] for step in steps))


class Kinds(unittest.TestCase):
    def test_they_are_tuples_and_truth_values(self):
        self.assertIs(is_condemnable(EXAMPLE, (2, 3)), True)
        self.assertIs(is_condemnable(EXAMPLE, (3,)), False)
        self.assertIs(type(greatest(EXAMPLE, (2, 3))), tuple)
        self.assertIs(type(along(EXAMPLE, 3)), tuple)
        told = condemn(FULL, (2, 7))
        self.assertEqual([type(part) for part in (told, *told)], [tuple] * 5)
        self.assertEqual([type(part) for part in told[0][2:]], [tuple] * 4)


if __name__ == "__main__":
    unittest.main()
