import copy
import unittest

from tests.samples import random_heap, random_set
from weakcourt.alive import obtainable, reachable
from weakcourt.derivations import check_derivation, compile_derivation, derive, with_registers
from weakcourt.text import format_heap


class Unchanged(unittest.TestCase):
    def test_nothing_that_is_handed_in_is_changed(self):
        for seed in range(50):
            heap = random_heap(seed)
            condemned = random_set(seed, heap)
            before = copy.deepcopy((heap, condemned))
            format_heap(heap)
            reachable(heap)
            with_registers(heap, 2)
            for number in obtainable(heap, condemned):
                steps = derive(heap, condemned, number)
                kept = copy.deepcopy(steps)
                check_derivation(heap, condemned, steps)
                compile_derivation(heap, steps)
                self.assertEqual(steps, kept)
            self.assertEqual((heap, condemned), before)

    def test_wrong_steps_in_lists_are_not_changed(self):
        heap = random_heap(1)
        steps = [[0, ["register", 0]], (0, ["field", 0, 0])]
        before = copy.deepcopy(steps)
        self.assertIs(check_derivation(heap, (), steps), False)
        self.assertIs(check_derivation(heap, (), tuple(steps)), False)
        self.assertEqual(steps, before)


if __name__ == "__main__":
    unittest.main()
