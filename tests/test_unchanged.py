import copy
import unittest

from tests.machine import random_commands
from tests.samples import numbers_in, random_heap, random_set
from tests.search import drawn_logs
from tests.test_runtime import random_script, step_of
from weakcourt.alive import obtainable, reachable
from weakcourt.canonical import canonical, marking, same
from weakcourt.commands import do
from weakcourt.condemning import along, condemn, greatest, is_condemnable
from weakcourt.court import Court, audit, fewest, late
from weakcourt.derivations import check_derivation, compile_derivation, derive, with_registers
from weakcourt.errors import CommandFault
from weakcourt.logs import candidates, explains, registers_after
from weakcourt.papers import accuse, held, judge, plain
from weakcourt.retaining import dominators, retained
from weakcourt.runtime import Runtime, run
from weakcourt.text import format_heap


class Unchanged(unittest.TestCase):
    def test_nothing_that_is_handed_in_is_changed(self):
        for seed in range(50):
            heap = random_heap(seed)
            condemned = random_set(seed, heap)
            before = copy.deepcopy((heap, condemned))
            format_heap(heap)
            reachable(heap)
            with_registers(heap, 2)
            for number in obtainable(heap, condemned):
                steps = derive(heap, condemned, number)
                kept = copy.deepcopy(steps)
                check_derivation(heap, condemned, steps)
                compile_derivation(heap, steps)
                self.assertEqual(steps, kept)
            self.assertEqual((heap, condemned), before)

    def test_condemning_retaining_canonical(self):
        for seed in range(50):
            heap = random_heap(seed)
            other = random_heap(seed + 1)
            candidates = random_set(seed, heap)[::-1]
            before = copy.deepcopy((heap, other, candidates))
            gone = greatest(heap, candidates)
            is_condemnable(heap, candidates)
            condemn(heap, gone)
            for number in numbers_in(heap):
                along(heap, number)
                retained(heap, number)
                dominators(heap, number)
            marking(heap)
            canonical(heap)
            same(heap, other)
            self.assertEqual((heap, other, candidates), before)

    def test_states_and_commands(self):
        for seed in range(50):
            heap = random_heap(seed)
            state = ("state", heap, (4, 4, 2))
            for command in random_commands(seed, len(heap[2]), 20):
                before = copy.deepcopy((state, command))
                behind = state
                try:
                    behind = do(state, command)[0]
                except CommandFault:
                    pass
                self.assertEqual((state, command), before)
                state = behind

    def test_runtimes(self):
        for seed in range(40):
            heap = random_heap(seed)
            script = random_script(seed, heap, 25)
            before = copy.deepcopy((heap, script))
            run(heap, script)
            runtime = Runtime(heap)
            kept = []
            for command in script:
                fields = (runtime.state, runtime.log, runtime.condemned)
                kept.append((fields, copy.deepcopy(fields)))
                step_of(runtime, command)
            for fields, copied in kept:
                self.assertEqual(fields, copied)
            self.assertEqual((heap, script), before)

    def test_logs_courts_and_papers(self):
        for heap, log in drawn_logs(range(40)):
            before = copy.deepcopy((heap, log))
            verdict = audit(heap, log)
            sets = copy.deepcopy(verdict[1])
            late(heap, log)
            fewest(heap, log)
            registers_after(heap, log)
            explains(heap, log, verdict[1])
            paper = accuse(heap, log)
            copied = copy.deepcopy(paper)
            judge(heap, log, paper)
            for place in range(len(log) + 1):
                plain(heap, log, place)
                held(heap, log, place)
            for place in range(len(log)):
                candidates(heap, log, place)
            court = Court(heap)
            for command, result in log:
                taken = court.log
                court.could_see(command)
                court.certain()
                court.possible()
                court.observe(command, result)
                self.assertEqual(court.log[:len(taken)], taken)
            self.assertEqual((heap, log, verdict[1], paper), (*before, sets, copied))

    def test_wrong_sets_and_papers_in_lists(self):
        heap = random_heap(3)
        sets = [[1], (0,)]
        paper = ["held", 0, [(0, ["kept"])]]
        before = copy.deepcopy((sets, paper))
        log = ((("end",), None), (("drain",), [1]))
        self.assertIs(explains(heap, log, sets), False)
        self.assertIs(explains(heap, log, tuple(sets)), False)
        self.assertIs(judge(heap, log, paper), False)
        self.assertIs(judge(heap, log, tuple(paper)), False)
        self.assertEqual((sets, paper), before)
        self.assertEqual(log, ((("end",), None), (("drain",), [1])))

    def test_wrong_steps_in_lists_are_not_changed(self):
        heap = random_heap(1)
        steps = [[0, ["register", 0]], (0, ["field", 0, 0])]
        before = copy.deepcopy(steps)
        self.assertIs(check_derivation(heap, (), steps), False)
        self.assertIs(check_derivation(heap, (), tuple(steps)), False)
        self.assertEqual(steps, before)


if __name__ == "__main__":
    unittest.main()
