import random
import unittest

from tests.machine import SHAPES, Machine, random_command
from tests.samples import heap_of
from tests.search import audit_slowly, certain_slowly, could_see_slowly, drawn_logs, explanations, is_explainable
from tests.search import large_run, late_slowly, likely_command, most_slowly, possible_slowly, same_kind
from weakcourt.court import Court, audit, fewest, late
from weakcourt.logs import explains

EXAMPLE = heap_of((0, 1, None), ("weak", 0, 2), ("weak", 1, 3), ("record", 2, (3,)), ("record", 3, ()))
END = (("end",), None)
GONE = (("deref", 2, 1), None)

# Three weak references to records that nothing else leads to.
THREE = heap_of(
    (0, 1, 2, None), ("weak", 0, 3), ("weak", 1, 4), ("weak", 2, 5), ("record", 3, ()), ("record", 4, ()),
    ("record", 5, ()), watches=((3, 6), (4, 6), (5, 2), (0, 9), (3, 2)),
)


def court_of(heap, *log):
    court = Court(heap)
    for command, result in log:
        if not court.observe(command, result):
            raise AssertionError((command, result))
    return court


class Audit(unittest.TestCase):
    def test_the_example(self):
        self.assertEqual(audit(EXAMPLE, (GONE, (("deref", 2, 0), 2))), ("unexplained", 1))
        self.assertEqual(audit(EXAMPLE, (GONE, (("deref", 2, 0), None))), ("explained", ((2, 3), ())))

    def test_the_empty_log(self):
        self.assertEqual(audit(EXAMPLE, ()), ("explained", ()))

    def test_the_schedule_condemns_as_early_as_can_be(self):
        self.assertEqual(audit(EXAMPLE, (END,)), ("explained", ((2, 3),)))
        self.assertEqual(audit(EXAMPLE, ((("clear", 0), None), END)), ("explained", ((2, 3), (0,))))

    def test_what_is_seen_later_is_not_condemned_before(self):
        log = ((("clear", 2), None), (("deref", 2, 0), 2), (("clear", 2), None), END, END, (("deref", 2, 0), None))
        self.assertEqual(audit(EXAMPLE, log), ("explained", ((), (), (), (), (2, 3), ())))
        self.assertEqual(audit(EXAMPLE, log[:3]), ("explained", ((), (), ())))
        self.assertEqual(audit(EXAMPLE, log[:1]), ("explained", ((2, 3),)))

    def test_made_objects(self):
        log = ((("record", 2, 0), 4), (("table", 2), 5), (("clear", 2), None), END)
        self.assertEqual(audit(EXAMPLE, log), ("explained", ((2, 3), (), (4,), (5,))))

    def test_the_least_place(self):
        self.assertEqual(audit(EXAMPLE, (END, (("copy", 2, 0), 1), END, (("copy", 2, 0), 1))), ("unexplained", 1))
        self.assertEqual(audit(EXAMPLE, ((("read", 2, 0, 0), None),)), ("unexplained", 0))
        # Ahead of place 0 nothing can be condemned any more if 2 is seen later, which is what goes wrong.
        self.assertEqual(audit(EXAMPLE, (GONE, END, END, (("deref", 2, 0), 2), END)), ("unexplained", 3))

    def test_a_kept_target(self):
        log = ((("deref", 2, 0), 2), (("clear", 2), None), (("deref", 2, 0), None))
        self.assertEqual(audit(EXAMPLE, log), ("unexplained", 2))
        self.assertEqual(audit(EXAMPLE, (*log[:2], END, log[2])), ("explained", ((), (), (), (2, 3))))

    def test_tokens(self):
        drain = ("drain",)
        self.assertEqual(audit(THREE, ((drain, (6, 2, 6, 2)), (drain, ()))), ("explained", ((3, 4, 5), ())))
        self.assertEqual(audit(THREE, ((drain, (6,)), (drain, (6,)), (drain, (6,)))), ("unexplained", 2))
        self.assertEqual(audit(THREE, ((drain, (9,)),)), ("unexplained", 0))
        self.assertEqual(audit(THREE, ((("clear", 0), None), (drain, (9,)))), ("explained", ((3, 4, 5), (0,))))
        self.assertEqual(audit(THREE, ((drain, (6, 6)), (("deref", 3, 0), 3))), ("unexplained", 1))
        self.assertEqual(audit(THREE, ((drain, (6,)), (("deref", 3, 0), 3))), ("explained", ((4, 5), ())))
        self.assertEqual(audit(THREE, ((drain, None),)), ("unexplained", 0))


class Late(unittest.TestCase):
    def test_nothing_is_asked_for(self):
        log = (END, (("deref", 2, 0), 2), (("drain",), ()), (("record", 2, 0), 4))
        self.assertEqual(late(EXAMPLE, log), ((), (), (), ()))
        self.assertEqual(late(EXAMPLE, ()), ())

    def test_a_cleared_reference(self):
        self.assertEqual(late(EXAMPLE, (END, GONE, (("deref", 2, 0), None))), ((), (2, 3), ()))
        self.assertEqual(late(EXAMPLE, (END, (("deref", 2, 0), None), GONE)), ((), (2, 3), ()))

    def test_candidates_come_and_go(self):
        log = ((("deref", 3, 0), None), (("deref", 3, 1), 4), (("clear", 3), None), END, (("deref", 3, 1), None))
        self.assertEqual(late(THREE, log), ((3, 5), (), (), (), (4,)))

    def test_tokens_that_are_not_pending_often_enough(self):
        drain = ("drain",)
        self.assertEqual(late(THREE, (END, (drain, ()), (drain, (2,)), (drain, (6, 2)))), ((), (), (3, 4, 5), ()))
        log = ((drain, (2,)), (("deref", 3, 1), 4), (("clear", 3), None), END, (drain, (6,)), (drain, (6,)))
        self.assertEqual(late(THREE, log), ((3, 5), (), (), (), (), (4,)))

    def test_no_explanation(self):
        for log in ((GONE, (("deref", 2, 0), 2)), ((("read", 2, 0, 0), None),), ((("copy", 2, 0), 1),)):
            self.assertIsNone(late(EXAMPLE, log))


class Fewest(unittest.TestCase):
    def test_how_many_are_not_empty(self):
        self.assertEqual(fewest(EXAMPLE, ()), 0)
        self.assertEqual(fewest(EXAMPLE, (END, (("deref", 2, 0), 2))), 0)
        self.assertEqual(fewest(EXAMPLE, (END, GONE, (("deref", 2, 0), None))), 1)
        log = ((("deref", 3, 0), None), (("deref", 3, 1), 4), (("clear", 3), None), END, (("deref", 3, 1), None))
        self.assertEqual(fewest(THREE, log), 2)

    def test_no_explanation(self):
        self.assertIsNone(fewest(EXAMPLE, (GONE, (("deref", 2, 0), 2))))


class Observe(unittest.TestCase):
    def test_what_is_explainable_is_taken_in(self):
        court = Court(EXAMPLE)
        self.assertEqual(court.log, ())
        self.assertIs(court.observe(*GONE), True)
        self.assertEqual(court.log, (GONE,))
        self.assertIs(court.observe(("end",), None), True)
        self.assertEqual(court.log, (GONE, END))

    def test_what_is_not_is_not(self):
        court = court_of(EXAMPLE, GONE)
        for command, result in ((("deref", 2, 0), 2), (("end",), True), (("read", 2, 0, 0), None),
                                (("drain",), (1,)), (("drain",), None), (("copy", 2, 0), False)):
            self.assertIs(court.observe(command, result), False)
            self.assertEqual(court.log, (GONE,))
        self.assertIs(court.observe(("deref", 2, 0), None), True)

    def test_two_courts_have_nothing_in_common(self):
        first, second = Court(EXAMPLE), Court(EXAMPLE)
        first.observe(*GONE)
        self.assertEqual(second.log, ())


class Certain(unittest.TestCase):
    def test_at_first(self):
        self.assertEqual((Court(EXAMPLE).certain(), Court(EXAMPLE).possible()), ((), (2, 3)))

    def test_the_example(self):
        court = court_of(EXAMPLE, GONE)
        self.assertEqual((court.certain(), court.possible()), ((2, 3), (2, 3)))

    def test_possible_but_not_certain(self):
        court = court_of(EXAMPLE, (("deref", 2, 0), None))
        self.assertEqual((court.certain(), court.possible()), ((2,), (2, 3)))

    def test_what_is_seen_is_not_possible(self):
        court = court_of(EXAMPLE, (("deref", 2, 0), 2))
        self.assertEqual((court.certain(), court.possible()), ((), ()))
        court = court_of(EXAMPLE, (("deref", 2, 0), 2), (("clear", 2), None))
        self.assertEqual(court.possible(), ())

    def test_one_more_set_counts_for_possible_alone(self):
        court = court_of(EXAMPLE, (("deref", 2, 0), 2), (("clear", 2), None), END)
        self.assertEqual((court.certain(), court.possible()), ((), (2, 3)))
        court = court_of(EXAMPLE, (("clear", 0), None))
        self.assertEqual((court.certain(), court.possible()), ((), (0, 2, 3)))

    def test_made_objects(self):
        court = court_of(EXAMPLE, (("record", 2, 0), 4), (("clear", 2), None))
        self.assertEqual((court.certain(), court.possible()), ((), (2, 3, 4)))
        court = court_of(EXAMPLE, (("record", 2, 0), 4), (("watch", 2, 7), None), (("clear", 2), None),
                         (("drain",), (7,)))
        self.assertEqual((court.certain(), court.possible()), ((4,), (2, 3, 4)))

    def test_one_of_several(self):
        court = court_of(THREE, (("drain",), (2,)))
        self.assertEqual((court.certain(), court.possible()), ((), (3, 4, 5)))
        court = court_of(THREE, (("drain",), (2, 2)))
        self.assertEqual(court.certain(), (3, 5))
        court = court_of(THREE, (("drain",), (2,)), (("deref", 3, 0), 3))
        self.assertEqual((court.certain(), court.possible()), ((5,), (4, 5)))


class CouldSee(unittest.TestCase):
    # A table 0, a record 1, weak references 2 and 3, and what these lead to.
    heap = heap_of(
        (0, 1, 2, 3, None), ("table", 0, ((1, 4),)), ("record", 1, (2, None)), ("weak", 2, 5), ("weak", 3, None),
        ("record", 4, ()), ("record", 5, ()),
    )

    def test_the_one_result(self):
        for command, result in (
            (("record", 0, 2), 6), (("weak", 0, 1), 6), (("table", 0), 6), (("copy", 0, 1), 1), (("copy", 0, 4), None),
            (("clear", 0), None), (("read", 0, 1, 0), 2), (("read", 0, 1, 1), None), (("write", 1, 0, 0), None),
            (("put", 0, 1, 2), None), (("remove", 0, 1), True), (("remove", 0, 2), False), (("lookup", 4, 0, 1), 4),
            (("lookup", 4, 0, 2), None), (("watch", 0, 1), None), (("end",), None),
        ):
            seen = Court(self.heap).could_see(command)
            self.assertEqual(seen, (result,))
            self.assertIs(type(seen[0]), type(result))

    def test_commands_that_fail(self):
        for command in (("read", 0, 4, 0), ("read", 0, 0, 0), ("read", 0, 1, 2), ("write", 0, 0, 0), ("deref", 0, 4),
                        ("deref", 0, 1), ("put", 1, 0, 0), ("put", 0, 4, 0), ("remove", 0, 4), ("lookup", 0, 2, 0),
                        ("watch", 4, 0), ("weak", 0, 4)):
            self.assertEqual(Court(self.heap).could_see(command), ())

    def test_deref(self):
        self.assertEqual(Court(self.heap).could_see(("deref", 4, 2)), (5, None))
        self.assertEqual(Court(self.heap).could_see(("deref", 4, 3)), (None,))
        self.assertEqual(court_of(self.heap, (("deref", 4, 2), None)).could_see(("deref", 4, 2)), (None,))
        self.assertEqual(court_of(self.heap, (("deref", 4, 2), 5)).could_see(("deref", 4, 2)), (5,))
        kept = court_of(self.heap, (("deref", 4, 2), 5), (("clear", 4), None))
        self.assertEqual(kept.could_see(("deref", 4, 2)), (5,))
        self.assertIs(kept.observe(("end",), None), True)
        self.assertEqual(kept.could_see(("deref", 4, 2)), (5, None))

    def test_deref_of_a_target_that_others_keep(self):
        self.assertEqual(court_of(EXAMPLE, (("deref", 2, 0), 2)).could_see(("deref", 2, 1)), (3,))
        self.assertEqual(court_of(EXAMPLE, GONE).could_see(("deref", 2, 0)), (None,))
        self.assertEqual(court_of(EXAMPLE, (("deref", 2, 0), None)).could_see(("deref", 2, 1)), (3, None))

    def test_drain(self):
        drain = ("drain",)
        self.assertEqual(Court(EXAMPLE).could_see(drain), ("tokens", (), ()))
        self.assertEqual(Court(THREE).could_see(drain), ("tokens", (), (2, 2, 6, 6)))
        self.assertEqual(court_of(THREE, (drain, (6, 2))).could_see(drain), ("tokens", (), (2, 6)))
        self.assertEqual(court_of(THREE, (drain, ()), (drain, (6, 6))).could_see(drain), ("tokens", (), (2, 2)))
        self.assertEqual(court_of(THREE, (("deref", 3, 0), 3)).could_see(drain), ("tokens", (), (2, 6)))
        self.assertEqual(court_of(THREE, (("clear", 0), None)).could_see(drain), ("tokens", (), (2, 2, 6, 6, 9)))
        self.assertEqual(court_of(THREE, (("watch", 0, 1), None)).could_see(drain), ("tokens", (), (2, 2, 6, 6)))
        self.assertEqual(
            court_of(THREE, (("watch", 0, 1), None), (("clear", 0), None)).could_see(drain),
            ("tokens", (), (1, 2, 2, 6, 6, 9)),
        )

    def test_it_takes_nothing_in(self):
        court = court_of(EXAMPLE, GONE)
        for command in (("deref", 2, 0), ("drain",), ("end",), ("read", 0, 2, 0)):
            court.could_see(command)
            self.assertEqual(court.log, (GONE,))


class AgainstASearch(unittest.TestCase):
    def test_audit_late_and_fewest(self):
        told = {}
        for heap, log in drawn_logs(range(400)):
            verdict = audit(heap, log)
            told[verdict[0]] = told.get(verdict[0], 0) + 1
            self.assertEqual(verdict, audit_slowly(heap, log), (heap, log))
            if verdict[0] == "unexplained":
                self.assertIsNone(late(heap, log))
                self.assertIsNone(fewest(heap, log))
                continue
            self.assertTrue(explains(heap, log, verdict[1]))
            sets = late(heap, log)
            self.assertEqual(sets, late_slowly(heap, log))
            self.assertTrue(explains(heap, log, sets))
            least = min(len([part for part in parts if part]) for parts, _ in explanations(heap, log))
            self.assertEqual(fewest(heap, log), least)
            told["fewest", least] = True
        self.assertGreater(min(told["explained"], told["unexplained"]), 200)

    def test_all_logs_of_a_few_observations(self):
        heap = heap_of((0, 1, None), ("weak", 0, 2), ("weak", 1, 3), ("record", 2, (3,)), ("record", 3, ()))
        rows = ((("deref", 2, 0), 2), (("deref", 2, 0), None), (("deref", 2, 1), 3), (("deref", 2, 1), None),
                (("clear", 2), None), END)
        logs = [()]
        least = set()
        for _ in range(5):
            told = [(log, explanations(heap, log)) for log in [log + (row,) for log in logs for row in rows]]
            for log, found in told:
                if not found:
                    self.assertEqual(audit(heap, log), ("unexplained", len(log) - 1))
                    self.assertIsNone(late(heap, log))
                    continue
                self.assertEqual(audit(heap, log), audit_slowly(heap, log))
                self.assertEqual(late(heap, log), late_slowly(heap, log))
                least.add(min(len([part for part in parts if part]) for parts, _ in found))
                self.assertEqual(fewest(heap, log), min(len([part for part in parts if part]) for parts, _ in found))
            logs = [log for log, found in told if found]
        self.assertEqual(least, {0, 1, 2})

    def test_observe(self):
        for heap, log in drawn_logs(range(120)):
            court = Court(heap)
            taken = ()
            for observation in log:
                right = is_explainable(heap, taken + (observation,))
                self.assertIs(court.observe(*observation), right)
                taken = taken + (observation,) if right else taken
                self.assertEqual(court.log, taken)

    def courts(self, seeds):
        for heap, log in drawn_logs(seeds):
            if is_explainable(heap, log):
                yield heap, log, court_of(heap, *log)

    def test_certain_and_possible(self):
        for heap, log, court in self.courts(range(250)):
            self.assertEqual(court.certain(), certain_slowly(heap, log), (heap, log))
            self.assertEqual(court.possible(), possible_slowly(heap, log), (heap, log))

    def test_could_see_each_command(self):
        seen = set()
        chance = random.Random(7)
        for heap, log, court in self.courts(range(150)):
            for _ in range(4):
                command = random_command(chance, len(heap[2]))
                if chance.random() < 0.5:
                    command = likely_command(chance, Machine(("state", heap, ())))
                if command == ("drain",):
                    self.assertEqual(court.could_see(command), ("tokens", (), most_slowly(heap, log)))
                    continue
                results = court.could_see(command)
                seen.add((command[0], len(results)))
                self.assertEqual(results, could_see_slowly(heap, log, command), (heap, log, command))
                for result in results:
                    self.assertTrue(court_of(heap, *log).observe(command, result))
        self.assertTrue({("deref", 0), ("deref", 1), ("deref", 2)} <= seen)
        self.assertTrue({(word, 1) for word in SHAPES if word != "drain"} <= seen)

    def test_could_see_drain(self):
        for heap, log, court in self.courts(range(300)):
            kind, sure, most = court.could_see(("drain",))
            self.assertEqual((kind, sure, most), ("tokens", (), most_slowly(heap, log)))
            self.assertTrue(court.observe(("drain",), most[::-1]))
            self.assertEqual(court.could_see(("drain",)), ("tokens", (), ()))

    def test_other_results_are_not_taken_in(self):
        chance = random.Random(3)
        for heap, log, court in self.courts(range(100)):
            command = likely_command(chance, Machine(("state", heap, ())))
            if command == ("drain",):
                continue
            seen = court.could_see(command)
            for result in (None, True, False, 0, 1, heap[1], 99, -1, (), "0"):
                if not any(same_kind(told, result) for told in seen):
                    self.assertIs(court.observe(command, result), False)
            self.assertEqual(court.log, log)


class LargeOnes(unittest.TestCase):
    def test_what_a_runtime_made(self):
        for seed in range(8):
            heap, log, condemned = large_run(seed)
            court = Court(heap)
            for command, result in log:
                seen = court.could_see(command)
                self.assertTrue(command == ("drain",) or result in seen)
                self.assertTrue(court.observe(command, result))
            gone = {number for numbers in condemned for number in numbers}
            self.assertTrue(set(court.certain()) <= gone <= set(court.possible()))
            verdict = audit(heap, log)
            self.assertEqual(verdict[0], "explained")
            for sets in (condemned, verdict[1], late(heap, log)):
                self.assertTrue(explains(heap, log, sets))
            self.assertLessEqual(fewest(heap, log), len([numbers for numbers in condemned if numbers]))


class Kinds(unittest.TestCase):
    def test_they_are_tuples_and_truth_values(self):
        court = court_of(EXAMPLE, GONE)
        for value in (court.certain(), court.possible(), court.could_see(("deref", 2, 0)), court.log,
                      court.could_see(("drain",)), court.could_see(("drain",))[2], audit(EXAMPLE, (GONE,)),
                      audit(EXAMPLE, (GONE,))[1], late(EXAMPLE, (GONE,)), late(EXAMPLE, (GONE,))[0]):
            self.assertIs(type(value), tuple)
        self.assertIs(type(fewest(EXAMPLE, (GONE,))), int)


if __name__ == "__main__":
    unittest.main()
