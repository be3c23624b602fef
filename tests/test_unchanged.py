import copy
import unittest

from tests.machine import random_commands
from tests.samples import numbers_in, random_heap, random_set
from weakcourt.alive import obtainable, reachable
from weakcourt.canonical import canonical, marking, same
from weakcourt.commands import do
from weakcourt.condemning import along, condemn, greatest, is_condemnable
from weakcourt.derivations import check_derivation, compile_derivation, derive, with_registers
from weakcourt.errors import CommandFault
from weakcourt.retaining import dominators, retained
from weakcourt.text import format_heap


class Unchanged(unittest.TestCase):
    def test_nothing_that_is_handed_in_is_changed(self):
        for seed in range(50):
            heap = random_heap(seed)
            condemned = random_set(seed, heap)
            before = copy.deepcopy((heap, condemned))
            format_heap(heap)
            reachable(heap)
            with_registers(heap, 2)
            for number in obtainable(heap, condemned):
                steps = derive(heap, condemned, number)
                kept = copy.deepcopy(steps)
                check_derivation(heap, condemned, steps)
                compile_derivation(heap, steps)
                self.assertEqual(steps, kept)
            self.assertEqual((heap, condemned), before)

    def test_condemning_retaining_canonical(self):
        for seed in range(50):
            heap = random_heap(seed)
            other = random_heap(seed + 1)
            candidates = random_set(seed, heap)[::-1]
            before = copy.deepcopy((heap, other, candidates))
            gone = greatest(heap, candidates)
            is_condemnable(heap, candidates)
            condemn(heap, gone)
            for number in numbers_in(heap):
                along(heap, number)
                retained(heap, number)
                dominators(heap, number)
            marking(heap)
            canonical(heap)
            same(heap, other)
            self.assertEqual((heap, other, candidates), before)

    def test_states_and_commands(self):
        for seed in range(50):
            heap = random_heap(seed)
            state = ("state", heap, (4, 4, 2))
            for command in random_commands(seed, len(heap[2]), 20):
                before = copy.deepcopy((state, command))
                behind = state
                try:
                    behind = do(state, command)[0]
                except CommandFault:
                    pass
                self.assertEqual((state, command), before)
                state = behind

    def test_wrong_steps_in_lists_are_not_changed(self):
        heap = random_heap(1)
        steps = [[0, ["register", 0]], (0, ["field", 0, 0])]
        before = copy.deepcopy(steps)
        self.assertIs(check_derivation(heap, (), steps), False)
        self.assertIs(check_derivation(heap, (), tuple(steps)), False)
        self.assertEqual(steps, before)


if __name__ == "__main__":
    unittest.main()
