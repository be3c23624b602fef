import random
import unittest

from tests.samples import JUNK, Touchy, WRONG_HEAPS, heap_of
from tests.search import audit_slowly, changed_log, drawn_logs, is_explainable, large_run, lively_heap, wild_log
from tests.slow_papers import accuse_slowly, chain_heap, changed_paper, judge_slowly, papers_slowly
from weakcourt.court import audit
from weakcourt.papers import accuse, judge

EXAMPLE = heap_of((0, 1, None), ("weak", 0, 2), ("weak", 1, 3), ("record", 2, (3,)), ("record", 3, ()))
END = (("end",), None)
GONE = (("deref", 2, 1), None)
FOUND = (("deref", 2, 0), 2)
STEPS = ((0, ("register", 0)), (2, ("later", 1)), (2, ("deref", 0)), (3, ("field", 2, 0)))
PAPER = ("held", 0, STEPS)

# To the record 5 leads a way with each reason, on which the weak reference 3 gives what is kept.
EACH = heap_of(
    (0, 1, None, 2), ("weak", 0, 5), ("table", 1, ((2, 3),)), ("record", 2, ()), ("weak", 3, 4),
    ("record", 4, (None, 5)), ("record", 5, ()), kept=(4,),
)
EACH_STEPS = (
    (1, ("register", 1)), (2, ("register", 3)), (3, ("entry", 1, 2)), (4, ("kept",)), (4, ("deref", 3)),
    (5, ("field", 4, 1)),
)

# 4 is in register 2, and 5 is kept; 6 is held by nothing.
WATCHED = heap_of(
    (0, None, 4), ("weak", 0, 6), ("record", 4, ()), ("record", 5, ()), ("record", 6, ()),
    kept=(5,), watches=((6, 2), (4, 2), (5, 1), (4, 2), (5, 2), (6, 3), (4, 8)),
)


def drain(*tokens):
    return (("drain",), tokens)


class AccuseResult(unittest.TestCase):
    def check(self, heap, observation, *before):
        log = (*before, observation, END)
        paper = ("result", len(before))
        self.assertEqual(accuse(heap, log), paper)
        self.assertIs(judge(heap, log, paper), True)
        self.assertIs(judge(heap, log[:-1], paper), True)

    def test_the_command_fails(self):
        for command in (("weak", 0, 2), ("read", 2, 0, 0), ("deref", 2, 2), ("put", 0, 0, 0), ("watch", 2, 1)):
            for result in (None, 4, True):
                self.check(EXAMPLE, (command, result))

    def test_another_result(self):
        for command in (("record", 2, 0), ("copy", 2, 0), ("clear", 2), ("watch", 0, 1), ("end",)):
            for result in (99, True, False, (), -1, "4", Touchy()):
                self.check(EXAMPLE, (command, result))
        self.check(EXAMPLE, (("copy", 2, 0), None))
        self.check(EXAMPLE, (("end",), 0))
        self.check(EXAMPLE, (("record", 2, 0), 3))

    def test_truth_values_and_numbers(self):
        heap = heap_of((0, 1), ("table", 0, ((1, 1),)), ("weak", 1, 0))
        self.check(heap, (("remove", 0, 1), 1))
        self.check(heap, (("remove", 0, 0), 0))
        self.check(heap, (("remove", 0, 0), True))
        self.check(heap, (("copy", 0, 1), True))
        self.check(heap, (("deref", 1, 1), False))

    def test_deref_with_neither_the_target_nor_none(self):
        for result in (0, 3, 99, True, False, (), (2,), "2"):
            self.check(EXAMPLE, (("deref", 2, 0), result))
        self.check(heap_of((0,), ("weak", 0, None)), (("deref", 0, 0), 0))

    def test_drain_with_what_is_no_tuple_of_tokens(self):
        for result in (None, 0, [], [1], "", (None,), (True,), (-1,), ((),), Touchy()):
            self.check(EXAMPLE, (("drain",), result))

    def test_behind_others(self):
        self.check(EXAMPLE, (("read", 2, 2, 0), None), FOUND, END)
        self.check(EXAMPLE, (("copy", 2, 0), 1), GONE, END)

    def test_the_first_of_several(self):
        self.assertEqual(accuse(EXAMPLE, ((("copy", 2, 0), 1), (("copy", 2, 0), 1))), ("result", 0))


class AccuseHeld(unittest.TestCase):
    def check(self, heap, log, paper):
        self.assertEqual(accuse(heap, log), paper)
        self.assertIs(judge(heap, log, paper), True)
        self.assertIs(judge(heap, (*log, END, (("copy", 0, 0), 1)), paper), True)

    def test_the_example(self):
        self.check(EXAMPLE, (GONE, FOUND), PAPER)

    def test_it_is_cut_behind_the_first_unexplained_observation(self):
        # What is seen at place 3 only would be held ahead of place 1, too.
        self.check(EXAMPLE, (END, GONE, FOUND, (("deref", 2, 1), 3)),
                   ("held", 1, tuple((2, ("later", 2)) if step == (2, ("later", 1)) else step for step in STEPS)))

    def test_a_kept_target(self):
        log = ((("deref", 2, 0), 2), (("clear", 2), None), (("deref", 2, 0), None))
        self.check(EXAMPLE, log, ("held", 2, ((2, ("kept",)),)))

    def test_kept_goes_before_later(self):
        heap = heap_of((0, 1), ("weak", 0, 1), ("record", 1, ()), kept=(1,))
        self.check(heap, ((("deref", 0, 0), None),), ("held", 0, ((1, ("kept",)),)))

    def test_a_target_in_a_later_register(self):
        log = (END, (("deref", 2, 0), None), END, FOUND)
        self.check(EXAMPLE, log, ("held", 1, ((2, ("later", 3)),)))

    def test_later_counts_from_this_observation_on(self):
        heap = heap_of((0, 1), ("weak", 0, 1), ("record", 1, ()))
        self.check(heap, (END, (("deref", 0, 0), None)), ("held", 1, ((1, ("later", 1)),)))
        # Ahead of it 1 is in a register alone, which the observation loads.
        self.check(heap, (END, (("deref", 1, 0), None)), ("held", 1, ((1, ("register", 1)),)))

    def test_each_reason(self):
        self.check(EACH, ((("deref", 2, 0), None),), ("held", 0, EACH_STEPS))
        self.assertIsNone(accuse((*EACH[:3], (), *EACH[4:]), ((("deref", 2, 0), None),)))

    def test_the_steps_by_rounds_then_by_number(self):
        heap = heap_of(
            (9, 5, 2, None), ("table", 2, ((7, 8),)), ("record", 5, (7,)), ("record", 7, ()), ("weak", 8, 10),
            ("weak", 9, 11), ("record", 10, (None, 11)), ("record", 11, ()), ("weak", 12, 10),
        )
        self.assertIsNone(accuse(heap, ((("deref", 3, 0), None),)))
        later = ((("deref", 3, 0), None), (("read", 0, 1, 0), 7), (("lookup", 1, 2, 0), 8), (("deref", 0, 1), 10))
        steps = (
            (2, ("register", 2)), (5, ("register", 1)), (7, ("field", 5, 0)), (8, ("entry", 2, 7)),
            (10, ("later", 3)), (10, ("deref", 8)), (11, ("field", 10, 1)),
        )
        self.check(heap, later, ("held", 0, steps))

    def test_targets_stand_directly_ahead_of_deref(self):
        heap = heap_of(
            (0, 1, None), ("weak", 0, 5), ("weak", 1, 2), ("weak", 2, 3), ("record", 3, (5,)), ("record", 5, ()),
            kept=(2, 3),
        )
        steps = (
            (1, ("register", 1)), (2, ("kept",)), (2, ("deref", 1)), (3, ("kept",)), (3, ("deref", 2)),
            (5, ("field", 3, 0)),
        )
        self.check(heap, ((("deref", 2, 0), None),), ("held", 0, steps))

    def test_the_least_place(self):
        steps = STEPS[:1] + ((2, ("later", 3)),) + STEPS[2:]
        self.check(EXAMPLE, (END, GONE, (("deref", 2, 1), None), FOUND), ("held", 1, steps))


class AccuseTokens(unittest.TestCase):
    def check(self, heap, log, paper):
        self.assertEqual(accuse(heap, log), paper)
        self.assertIs(judge(heap, log, paper), True)
        self.assertIs(judge(heap, (*log, END, END), paper), True)

    def test_a_token_without_watches(self):
        self.check(WATCHED, (drain(7),), ("tokens", 0, 7, ()))
        self.check(EXAMPLE, (END, drain(0)), ("tokens", 1, 0, ()))

    def test_drained_too_often(self):
        self.check(WATCHED, (drain(3, 3),), ("tokens", 0, 3, ()))
        self.check(WATCHED, (drain(3), drain(), drain(3)), ("tokens", 2, 3, ()))

    def test_a_watch_of_a_held_object(self):
        self.check(WATCHED, (drain(8),), ("tokens", 0, 8, ((6, ((4, ("later", 0)),)),)))
        self.check(WATCHED, (drain(1),), ("tokens", 0, 1, ((2, ((5, ("kept",)),)),)))

    def test_all_watches_in_order(self):
        bare = ((4, ("later", 1)),)
        papers = ((1, bare), (3, bare), (4, ((5, ("kept",)),)))
        self.check(WATCHED, (drain(2), drain(2, 3)), ("tokens", 1, 2, papers))

    def test_the_least_token(self):
        self.assertEqual(accuse(WATCHED, (drain(9, 7, 3, 3, 2),)), ("tokens", 0, 3, ()))
        self.assertEqual(accuse(WATCHED, (drain(9, 7, 3, 2, 2),))[2], 2)

    def test_steps_as_for_held_targets(self):
        heap = heap_of((0, 1), ("weak", 0, 2), ("weak", 1, 3), ("record", 2, (3,)), ("record", 3, ()),
                       watches=((3, 5),))
        log = (drain(5), (("deref", 1, 0), 2))
        self.check(heap, log, ("tokens", 0, 5, ((0, STEPS),)))

    def test_a_place_before_the_unexplained_one(self):
        log = (END, drain(3), (("deref", 1, 0), 6))
        self.check(WATCHED, log, ("tokens", 1, 3, ((5, ((6, ("later", 2)),)),)))

    def test_watches_that_are_made(self):
        heap = heap_of((0,), ("record", 0, ()))
        log = ((("watch", 0, 4), None), (("watch", 0, 4), None), drain(4))
        bare = ((0, ("later", 2)),)
        self.check(heap, log, ("tokens", 2, 4, ((0, bare), (1, bare))))


class Accuse(unittest.TestCase):
    def test_explainable_logs(self):
        for log in ((), (GONE,), (GONE, (("deref", 2, 0), None)), (FOUND, END), (drain(), END)):
            self.assertIsNone(accuse(EXAMPLE, log))

    def test_exactly_the_logs_that_are_not_explainable(self):
        told = {}
        for heap, log in drawn_logs(range(350)):
            paper = accuse(heap, log)
            self.assertEqual(paper, accuse_slowly(heap, log), (heap, log))
            verdict = audit_slowly(heap, log)
            self.assertIs(paper is None, verdict[0] == "explained")
            kind = None if paper is None else paper[0]
            told[kind] = told.get(kind, 0) + 1
            if paper is not None:
                self.assertIs(judge(heap, log, paper), True)
                self.assertIs(judge(heap, log[:verdict[1] + 1], paper), True)
                self.assertIs(judge(heap, log + wild_log(len(log), heap, 4), paper), True)
        self.assertEqual(set(told), {None, "result", "held", "tokens"})
        self.assertGreater(min(told.values()), 40)

    def test_long_papers(self):
        lengths = set()
        for seed in range(250):
            heap, log = chain_heap(seed)
            paper = accuse(heap, log)
            self.assertEqual(paper, accuse_slowly(heap, log, audit(heap, log)), (heap, log))
            if paper is not None:
                self.assertIs(judge(heap, log, paper), True)
                lengths.add((paper[0], len(paper[-1]) if paper[0] != "result" else 0))
        self.assertTrue({("held", many) for many in range(1, 8)} <= lengths)
        self.assertTrue({("tokens", many) for many in range(4)} <= lengths)


    def test_large_logs_with_one_result_changed(self):
        kinds = set()
        for seed in range(25):
            heap, log, _ = large_run(seed)
            self.assertIsNone(accuse(heap, log))
            for other in range(4):
                changed = changed_log(other, heap, log)
                verdict = audit(heap, changed)
                paper = accuse(heap, changed)
                kinds.add(None if paper is None else paper[0])
                self.assertIs(paper is None, verdict[0] == "explained")
                if paper is not None:
                    self.assertEqual(paper, accuse_slowly(heap, changed, verdict))
                    self.assertIs(judge(heap, changed, paper), True)
                    self.assertIs(judge(heap, changed[:verdict[1] + 1], paper), True)
                    self.assertIs(judge(heap, log, paper), False)
        self.assertEqual(kinds, {None, "result", "held", "tokens"})


class JudgeHeld(unittest.TestCase):
    log = (GONE, FOUND)

    def assert_wrong(self, *papers, heap=EXAMPLE, log=log):
        for paper in papers:
            self.assertIs(judge(heap, log, paper), False, paper)

    def test_a_step_left_out(self):
        for place in range(4):
            self.assert_wrong(("held", 0, STEPS[:place] + STEPS[place + 1:]))
        self.assert_wrong(("held", 0, ()))

    def test_a_step_added(self):
        for step in ((1, ("kept",)), (3, ("later", 0)), (2, ("later", 0)), (1, ("register", 0)), (3, ("deref", 1)),
                     (3, ("field", 2, 1)), (3, ("entry", 2, 0))):
            self.assert_wrong(("held", 0, (step,) + STEPS), ("held", 0, STEPS[:3] + (step,) + STEPS[3:]))
        self.assert_wrong(("held", 0, STEPS + ((1, ("register", 1)),)))

    def test_a_right_step_added(self):
        for step in ((1, ("register", 1)), (1, ("later", 0)), (1, ("later", 1)), (2, ("later", 1))):
            self.assertIs(judge(EXAMPLE, self.log, ("held", 0, (step,) + STEPS)), True)
        self.assertIs(judge(EXAMPLE, self.log, ("held", 0, STEPS + STEPS[3:])), True)

    def test_steps_exchanged(self):
        for place in range(3):
            other = STEPS[:place] + (STEPS[place + 1], STEPS[place]) + STEPS[place + 2:]
            right = place == 0
            self.assertIs(judge(EXAMPLE, self.log, ("held", 0, other)), right, other)

    def test_another_reason(self):
        for place, reason in ((0, ("later", 0)), (0, ("kept",)), (0, ("register", 1)), (1, ("kept",)),
                              (1, ("later", 0)), (1, ("later", 2)), (1, ("later", -1)), (2, ("deref", 1)),
                              (2, ("later", 1)), (3, ("field", 2, 1)), (3, ("field", 2, -1)), (3, ("deref", 1))):
            changed = STEPS[:place] + ((STEPS[place][0], reason),) + STEPS[place + 1:]
            self.assert_wrong(("held", 0, changed))

    def test_held_objects_that_are_not_got_do_not_lead_on(self):
        self.assert_wrong(("held", 0, ((2, ("later", 1)), (3, ("field", 2, 0)))))
        self.assert_wrong(("held", 0, ((0, ("later", 0)),) + STEPS[1:]))
        heap = (*EXAMPLE[:3], (2,), *EXAMPLE[4:])
        self.assert_wrong(("held", 0, ((2, ("kept",)), (3, ("field", 2, 0)))), heap=heap, log=self.log[:1])
        steps = ((0, ("register", 0)), (2, ("kept",)), (2, ("deref", 0)), (3, ("field", 2, 0)))
        self.assertIs(judge(heap, self.log[:1], ("held", 0, steps)), True)

    def test_a_table_or_a_key_that_is_not_got(self):
        heap = heap_of((0, 1, 2, None), ("table", 0, ((1, 3),)), ("record", 1, ()), ("weak", 2, 3), ("record", 3, ()),
                       kept=(0, 1))
        log = ((("deref", 3, 2), None),)
        right = ((0, ("register", 0)), (1, ("register", 1)), (3, ("entry", 0, 1)))
        self.assertIs(judge(heap, log, ("held", 0, right)), True)
        self.assertIs(judge(heap, log, ("held", 0, ((0, ("kept",)), (1, ("kept",))) + right)), True)
        self.assertIs(judge(heap, log, ("held", 0, right[:2] + ((1, ("kept",)), (0, ("kept",)), right[2]))), True)
        self.assert_wrong(
            ("held", 0, ((0, ("kept",)), right[1], right[2])),
            ("held", 0, (right[0], (1, ("kept",)), right[2])),
            ("held", 0, (right[0], (1, ("later", 0)), right[2])),
            heap=heap, log=log,
        )

    def test_deref_needs_its_target(self):
        heap = heap_of((0, 1, None), ("weak", 0, 1), ("weak", 1, 2), ("record", 2, ()))
        log = ((("deref", 2, 1), None),)
        self.assertIsNone(accuse(heap, log))
        self.assert_wrong(("held", 0, ((1, ("register", 1)), (2, ("deref", 1)))), heap=heap, log=log)
        kept = (*heap[:3], (2,), *heap[4:])
        self.assertIs(
            judge(kept, log, ("held", 0, ((1, ("register", 1)), (2, ("kept",)), (2, ("deref", 1))))), True
        )
        self.assert_wrong(("held", 0, ((1, ("register", 1)), (2, ("deref", 1)))), heap=kept, log=log)

    def test_the_target_may_be_got_itself(self):
        heap = heap_of((0, 1, 2, None), ("weak", 0, 2), ("weak", 1, 3), ("record", 2, (3,)), ("record", 3, ()))
        steps = ((2, ("register", 2)), (0, ("register", 0)), (2, ("deref", 0)), (3, ("field", 2, 0)))
        log = ((("deref", 3, 1), None),)
        self.assertIs(judge(heap, log, ("held", 0, steps)), True)
        self.assertIs(judge(heap, log, ("held", 0, steps[1:])), False)

    def test_the_last_step_is_for_the_target(self):
        self.assert_wrong(("held", 0, STEPS[:3]), ("held", 0, STEPS[:1]), ("held", 0, STEPS + STEPS[:1]))

    def test_another_place(self):
        self.assert_wrong(*[("held", place, STEPS) for place in (1, 2, -1, -2, 99)])
        log = (END, GONE, FOUND)
        steps = STEPS[:1] + ((2, ("later", 2)),) + STEPS[2:]
        self.assertIs(judge(EXAMPLE, log, ("held", 1, steps)), True)
        self.assert_wrong(("held", 0, steps), ("held", 2, steps), ("held", -2, steps), log=log)

    def test_later_is_this_observation_or_a_later_one(self):
        log = (FOUND, (("clear", 2), None), END, (("deref", 2, 0), None), END)
        self.assert_wrong(*[("held", 3, ((2, ("later", j)),)) for j in range(-3, 7)], log=log)
        log = log[:4] + (FOUND,)
        for j in range(-3, 7):
            self.assertIs(judge(EXAMPLE, log, ("held", 3, ((2, ("later", j)),))), j == 4)

    def test_objects_that_are_not_there(self):
        log = (GONE, (("record", 2, 0), 4), (("copy", 2, 0), 99))
        for step in ((4, ("later", 1)), (99, ("later", 2)), (None, ("register", 2)), (99, ("kept",))):
            self.assert_wrong(("held", 0, (step, (3, ("kept",)))), log=log)
        self.assert_wrong(("held", 0, STEPS[:3] + ((3, ("field", 99, 0)),)), ("held", 0, ((3, ("deref", 99)),)),
                          ("held", 0, ((3, ("entry", 98, 99)),)))

    def test_only_for_a_deref_of_a_target_with_the_result_none(self):
        kept = heap_of((0, 1, None), ("weak", 0, 1), ("weak", 1, None), kept=(0, 1))
        paper = ("held", 0, ((1, ("kept",)),))
        self.assertIs(judge(kept, ((("deref", 2, 0), None),), paper), True)
        for observation in ((("deref", 2, 0), 1), (("deref", 2, 1), None), (("deref", 2, 2), None),
                            (("deref", 2, 0), 0), (("copy", 2, 1), None), drain(), END, (("deref", 2, 0), False),
                            (("deref", 2, 0), ()), (("lookup", 2, 0, 0), None)):
            self.assert_wrong(paper, heap=kept, log=(observation,))

    def test_the_plain_heap_counts(self):
        # Ahead of place 2 the record 2 leads to itself alone.
        log = (FOUND, (("write", 2, 0, 2), None), GONE)
        self.assertIsNone(accuse(EXAMPLE, log))
        self.assert_wrong(("held", 2, ((2, ("register", 2)), (3, ("field", 2, 0)))), log=log)
        self.assertIs(
            judge(EXAMPLE, log[:1] + (END, GONE), ("held", 2, ((2, ("register", 2)), (3, ("field", 2, 0))))), True
        )

    def test_observations_before_are_taken_as_they_are(self):
        log = ((("copy", 2, 2), 2), (("read", 0, 1, 0), 0), (("deref", 2, 1), None))
        steps = ((2, ("register", 2)), (3, ("field", 2, 0)))
        self.assertIs(judge(EXAMPLE, log, ("held", 2, steps)), True)
        self.assertIs(judge(EXAMPLE, log, ("result", 0)), True)
        self.assertIs(judge(EXAMPLE, log, ("result", 1)), True)
        self.assertIs(judge(EXAMPLE, log, ("result", 2)), False)
        self.assertEqual(accuse(EXAMPLE, log), ("result", 0))


class JudgeResult(unittest.TestCase):
    def test_what_the_plain_heap_gives(self):
        log = (FOUND, GONE, END, drain(), drain(5), (("record", 2, 1), 4), (("remove", 0, 0), False))
        for place in range(6):
            self.assertIs(judge(EXAMPLE, log, ("result", place)), False)
        self.assertIs(judge(EXAMPLE, log, ("result", 6)), True)
        for place in (-1, 7, 99):
            self.assertIs(judge(EXAMPLE, log, ("result", place)), False)

    def test_none_where_there_is_a_target_or_none(self):
        heap = heap_of((0, 1), ("weak", 0, None), ("weak", 1, 0), kept=(0,))
        self.assertIs(judge(heap, ((("deref", 0, 0), None),), ("result", 0)), False)
        self.assertIs(judge(heap, ((("deref", 0, 1), None),), ("result", 0)), False)
        self.assertIs(judge(heap, ((("deref", 0, 0), 0),), ("result", 0)), True)
        self.assertIs(judge(heap, ((("deref", 0, 1), 1),), ("result", 0)), True)


class JudgeTokens(unittest.TestCase):
    bare = ((4, ("later", 1)),)
    kept = ((5, ("kept",)),)
    log = (drain(2), drain(2, 3))
    papers = ((1, bare), (3, bare), (4, kept))

    def check(self, expected, papers, token=2, place=1, log=None):
        paper = ("tokens", place, token, papers)
        self.assertIs(judge(WATCHED, self.log if log is None else log, paper), expected, paper)

    def test_in_any_order(self):
        self.check(True, self.papers)
        self.check(True, self.papers[::-1])

    def test_a_watch_too_few(self):
        for place in range(3):
            self.check(False, self.papers[:place] + self.papers[place + 1:])
        self.check(False, ())
        self.check(True, self.papers[:2], log=(drain(2, 2), drain(2)))
        self.check(False, self.papers[:1], log=(drain(2, 2), drain(2)))

    def test_a_watch_twice(self):
        self.check(False, self.papers + self.papers[:1])
        self.check(False, (self.papers[0], self.papers[0], self.papers[2]))
        self.check(False, (self.papers[0], self.papers[0], self.papers[1], self.papers[2]))

    def test_another_watch(self):
        for watch in (0, 2, 5, 6, 7, 99, -1, -6, None, True, "1"):
            self.check(False, ((watch, self.bare),) + self.papers[1:])
        self.check(False, ((1, self.kept),) + self.papers[1:])
        self.check(False, self.papers[:2] + ((4, self.bare),))
        self.check(False, self.papers + ((0, ((6, ("kept",)),)),))
        self.check(False, self.papers + ((6, self.bare),))

    def test_wrong_steps(self):
        for steps in ((), ((4, ("later", 2)),), ((4, ("kept",)),), ((4, ("later", 0)),), ((4, ("register", 0)),)):
            self.check(False, ((1, steps),) + self.papers[1:])
        self.check(True, ((1, ((4, ("register", 2)),)),) + self.papers[1:])

    def test_another_place(self):
        for place in (0, 2, -1, 99):
            self.check(False, self.papers, place=place)
        self.check(True, (), token=3, place=0, log=(drain(3, 3), drain()))
        # The token was drained too often up to there, though not there.
        self.check(True, (), token=3, log=(drain(3, 3), drain()))
        self.check(False, (), token=3, place=0, log=(drain(3), drain(3)))

    def test_another_token(self):
        for token in (1, 3, 7, 8, None, True, "2", 2.0, -1):
            self.check(False, self.papers, token=token)
        self.check(False, (), token=7)
        self.check(False, (), token=3)

    def test_only_for_a_drain(self):
        for observation in (END, (("deref", 1, 0), None), (("copy", 1, 0), 0)):
            self.check(False, (), token=3, log=(drain(3, 3), observation))

    def test_only_what_was_drained_counts(self):
        for command in (("end",), ("copy", 1, 0), ("deref", 1, 0), ("watch", 2, 9), ("remove", 0, 0)):
            odd = (command, (3, 3))
            self.check(False, (), token=3, log=(odd, drain(3)))
            self.check(False, (), token=3, log=(drain(3), odd))

    def test_drains_whose_results_are_no_tuples_of_tokens(self):
        for result in (None, 3, [3], (3, None), (3, True), (3, -1), "3"):
            odd = (("drain",), result)
            self.check(False, (), token=3, log=(drain(3, 3), odd))
            self.check(False, (), token=3, log=(odd, drain(3)))
            self.check(True, (), token=3, log=(odd, drain(3, 3)))
            self.check(True, (), token=3, place=2, log=(drain(3), odd, drain(3)))

    def test_watches_that_are_made_later_are_not_there(self):
        log = (drain(3, 3), (("watch", 2, 3), None))
        self.check(True, (), token=3, place=0, log=log)
        self.check(False, ((7, self.bare),), token=3, place=0, log=log)
        self.check(False, (), token=3, place=2, log=((("watch", 2, 3), None), drain(3), drain(3)))


class JudgeMany(unittest.TestCase):
    def check_changed(self, heap, log, chance, many, told):
        for place in range(len(log)):
            for paper in papers_slowly(heap, log, place):
                self.assertIs(judge(heap, log, paper), True, (heap, log, paper))
                for _ in range(many):
                    other = changed_paper(chance, heap, paper)
                    right = judge_slowly(heap, log, other)
                    told[other[0], right] = told.get((other[0], right), 0) + 1
                    self.assertIs(judge(heap, log, other), right, (heap, log, other))

    def test_papers_with_one_thing_changed(self):
        told = {}
        for seed in range(250):
            heap, log = chain_heap(seed)
            self.check_changed(heap, log, random.Random(seed), 6, told)
        self.assertGreater(min(told.values()), 100)
        self.assertEqual(len(told), 6)

    def test_papers_for_any_logs(self):
        told = {}
        for seed in range(150):
            heap = lively_heap(seed)
            self.check_changed(heap, wild_log(seed, heap, 8), random.Random(seed), 3, told)
        self.assertEqual(len(told), 6)

    def test_no_paper_is_right_for_an_explainable_log(self):
        right = 0
        for seed, (heap, log) in enumerate(drawn_logs(range(150))):
            chance = random.Random(seed)
            told = {}
            changed = log[:-1] + ((log[-1][0], None),)
            papers = [paper for place in range(len(log)) for paper in papers_slowly(heap, changed, place)]
            papers += [changed_paper(chance, heap, paper) for paper in papers for _ in range(4)]
            self.check_changed(heap, log, chance, 4, told)
            if is_explainable(heap, log):
                right += len(papers)
                self.assertEqual(told, {})
                for paper in papers:
                    self.assertIs(judge(heap, log, paper), False)
        self.assertGreater(right, 50)


class WhateverElse(unittest.TestCase):
    log = (GONE, FOUND)

    def assert_no_paper(self, paper, heap=EXAMPLE, log=log):
        self.assertIs(judge(heap, log, paper), False)

    def test_what_is_no_paper(self):
        self.assertIs(judge(EXAMPLE, self.log, PAPER), True)
        for value in (*JUNK, ()):
            self.assert_no_paper(value)
            self.assert_no_paper((value, 0, STEPS))
            self.assert_no_paper(("held", 0, value))
            self.assert_no_paper(("held", 0, STEPS, value))
            self.assert_no_paper(("held", 0, STEPS[:3] + (value,)))
            self.assert_no_paper(("held", 0, (value,) + STEPS))
            self.assert_no_paper(("held", 0, STEPS[:3] + ((value, ("field", 2, 0)),)))
            self.assert_no_paper(("held", 0, STEPS[:3] + ((3, value),)))
            self.assert_no_paper(("held", 0, STEPS[:3] + ((3, (value, 2, 0)),)))
            self.assert_no_paper(("held", 0, STEPS[:3] + ((3, ("field", value, 0)),)))
            self.assert_no_paper(("held", 0, STEPS[:3] + ((3, ("field", 2, 0, value)),)))
            self.assert_no_paper(("held", 0, STEPS[:3] + ((3, ("field", 2, 0), value),)))
            self.assert_no_paper(("held", 0, ((2, ("kept", value)),) + STEPS))
            self.assert_no_paper(("result", value))
            self.assert_no_paper(("result", 0, value))
            self.assert_no_paper(("tokens", 0, value, ()))

    def test_other_values_in_their_places(self):
        for value in [value for value in (*JUNK, ()) if type(value) is not int]:
            self.assert_no_paper(("held", value, STEPS))
            self.assert_no_paper(("held", 0, ((2, ("later", value)),) + STEPS))
            self.assert_no_paper(("held", 0, ((1, ("register", value)),) + STEPS))
            self.assert_no_paper(("held", 0, STEPS[:3] + ((3, ("field", 2, value)),)))
            self.assert_no_paper(("held", 0, STEPS[:2] + ((2, ("deref", value)),) + STEPS[3:]))
            log = (drain(3, 3),)
            self.assertIs(judge(WATCHED, log, ("tokens", 0, 3, ())), True)
            self.assert_no_paper(("tokens", value, 3, ()), WATCHED, log)
            self.assert_no_paper(("tokens", 0, value, ()), WATCHED, log)
            self.assert_no_paper(("tokens", 0, 3, (value,)), WATCHED, log)
            self.assert_no_paper(("tokens", 0, 3, ((value, ((6, ("kept",)),)),)), WATCHED, log)
            self.assert_no_paper(("tokens", 0, 3, ((5, value),)), WATCHED, log)
            if type(value) is not tuple or len(value) > 0:
                self.assert_no_paper(("tokens", 0, 3, value), WATCHED, log)

    def test_truth_values_are_no_numbers(self):
        heap = heap_of((1, 0, 1), ("weak", 0, 1), ("record", 1, (1, 1)))
        log = (END, (("deref", 1, 1), None))
        right = ((1, ("register", 0)), (1, ("later", 1)), (1, ("field", 1, 0)), (1, ("register", 0)))
        self.assertIs(judge(heap, log, ("held", 1, right)), True)
        self.assert_no_paper(("held", True, right), heap, log)
        for steps in (
            ((True, ("register", 0)),), ((1, ("register", False)),), ((1, ("later", True)),), ((True, ("later", 1)),),
            right[:1] + ((1, ("field", True, 0)),), right[:1] + ((1, ("field", 1, False)),),
        ):
            self.assert_no_paper(("held", 1, steps), heap, log)
        self.assertIs(judge(heap, (drain(1),), ("tokens", 0, 1, ())), True)
        self.assert_no_paper(("tokens", 0, True, ()), heap, (drain(1),))
        self.assert_no_paper(("tokens", False, 1, ()), heap, (drain(1),))
        self.assert_no_paper(("result", False), heap, ((("end",), 1),))

    def test_lists(self):
        self.assert_no_paper(list(PAPER))
        self.assert_no_paper(("held", 0, list(STEPS)))
        self.assert_no_paper(("held", 0, tuple(list(step) for step in STEPS)))
        self.assert_no_paper(("held", 0, tuple((number, list(reason)) for number, reason in STEPS)))
        self.assert_no_paper(("tokens", 0, 3, []), WATCHED, (drain(3, 3),))

    def test_reasons_of_other_lengths(self):
        log = (END, GONE, FOUND)
        steps = STEPS[:1] + ((2, ("later", 2)),) + STEPS[2:]
        self.assertIs(judge(EXAMPLE, log, ("held", 1, steps)), True)
        for reason in ((), ("later",), ("later", 2, 2), ("kept", 2), ("later", 2, None)):
            self.assert_no_paper(("held", 1, ((2, reason),) + steps), log=log)

    def test_other_kinds_of_papers(self):
        for paper in (("Held", 0, STEPS), ("kept", 0, STEPS), ("result", 0, STEPS), ("held", 0), ("tokens", 0, STEPS),
                      ("result",), ("explained", ((), ())), ("unexplained", 1), ("tokens", 0, 7)):
            self.assert_no_paper(paper)

    def test_logs(self):
        self.assertIs(judge(EXAMPLE, ((("copy", 2, 0), 1),), ("result", 0)), True)
        for value in JUNK:
            self.assert_no_paper(("result", 0), log=value)
            self.assert_no_paper(("result", 0), log=((("copy", 2, 0), 1), value))
            self.assert_no_paper(("result", 0), log=((value, 1),))
            self.assert_no_paper(("result", 0), log=(((value, 2, 0), 1),))
            if type(value) is not int:
                self.assert_no_paper(("result", 0), log=((("copy", 2, value), 1),))

    def test_heaps(self):
        for heap in (*JUNK, *WRONG_HEAPS):
            self.assert_no_paper(("result", 0), heap, ((("end",), 1),))


class Kinds(unittest.TestCase):
    def test_papers_are_tuples(self):
        for heap, log in ((EXAMPLE, (GONE, FOUND)), (WATCHED, (drain(2), drain(2, 3))), (EXAMPLE, ((("end",), 1),))):
            waiting = [accuse(heap, log)]
            while waiting:
                value = waiting.pop()
                self.assertIn(type(value), (tuple, int, str))
                waiting.extend(value if type(value) is tuple else ())


if __name__ == "__main__":
    unittest.main()
