import random
import unittest

from tests.machine import random_command
from tests.samples import heap_of, numbers_in, random_heap
from tests.search import explains_slowly, lively_heap
from weakcourt.commands import do
from weakcourt.condemning import condemn, greatest, is_condemnable
from weakcourt.errors import CommandFault
from weakcourt.logs import explains
from weakcourt.runtime import Runtime, run

EXAMPLE = heap_of((0, 1, None), ("weak", 0, 2), ("weak", 1, 3), ("record", 2, (3,)), ("record", 3, ()))
WATCHED = heap_of(
    (0, 1, None), ("weak", 0, 2), ("weak", 1, 3), ("record", 2, (3,)), ("record", 3, ()), ("record", 4, ()),
    watches=((3, 5), (2, 1), (3, 1), (4, 7)),
)


def fields(runtime):
    return (runtime.state, runtime.log, runtime.condemned)


class Fields(unittest.TestCase):
    def test_at_first(self):
        self.assertEqual(fields(Runtime(EXAMPLE)), (("state", EXAMPLE, ()), (), ()))

    def test_two_runtimes_have_nothing_in_common(self):
        first, second = Runtime(EXAMPLE), Runtime(EXAMPLE)
        first.condemn((2, 3))
        first.execute(("end",))
        self.assertEqual(fields(second), (("state", EXAMPLE, ()), (), ()))


class Execute(unittest.TestCase):
    def test_its_result_and_what_it_changes(self):
        runtime = Runtime(EXAMPLE)
        self.assertEqual(runtime.execute(("deref", 2, 0)), 2)
        behind = do(("state", EXAMPLE, ()), ("deref", 2, 0))[0]
        self.assertEqual(fields(runtime), (behind, ((("deref", 2, 0), 2),), ((),)))
        self.assertEqual(runtime.execute(("read", 2, 2, 0)), 3)
        behind = do(behind, ("read", 2, 2, 0))[0]
        self.assertEqual(fields(runtime), (behind, ((("deref", 2, 0), 2), (("read", 2, 2, 0), 3)), ((), ())))

    def test_what_fails_changes_nothing(self):
        runtime = Runtime(WATCHED)
        runtime.execute(("watch", 0, 1))
        runtime.condemn((2, 3))
        before = fields(runtime)
        for command, reason in ((("read", 0, 2, 0), "register is empty"), (("read", 0, 1, 0), "not a record"),
                                (("put", 0, 1, 1), "not a table")):
            with self.assertRaises(CommandFault) as caught:
                runtime.execute(command)
            self.assertEqual(caught.exception.reason, reason)
            self.assertEqual(fields(runtime), before)
        runtime.execute(("end",))
        self.assertEqual(runtime.condemned, ((), (2, 3)))

    def test_drain_takes_the_tokens_in_their_order(self):
        runtime = Runtime(WATCHED)
        runtime.condemn((2,))
        runtime.condemn((4, 3))
        self.assertEqual(runtime.execute(("drain",)), (1, 5, 1, 7))
        self.assertEqual(runtime.execute(("drain",)), ())
        runtime = Runtime(WATCHED)
        runtime.condemn((2, 3, 4))
        self.assertEqual(runtime.execute(("drain",)), (5, 1, 1, 7))


class Condemn(unittest.TestCase):
    def test_a_condemnable_set(self):
        runtime = Runtime(WATCHED)
        self.assertIs(runtime.condemn((2, 3)), True)
        behind = condemn(WATCHED, (2, 3))[0]
        self.assertEqual(fields(runtime), (("state", behind, (5, 1, 1)), (), ()))

    def test_the_empty_set(self):
        runtime = Runtime(EXAMPLE)
        self.assertIs(runtime.condemn(()), True)
        self.assertEqual(fields(runtime), (("state", EXAMPLE, ()), (), ()))

    def test_what_is_not_condemnable_changes_nothing(self):
        for numbers in ((3,), (0,), (0, 2, 3), (1, 2)):
            runtime = Runtime(EXAMPLE)
            self.assertIs(runtime.condemn(numbers), False)
            self.assertEqual(fields(runtime), (("state", EXAMPLE, ()), (), ()))
            runtime.execute(("end",))
            self.assertEqual(runtime.condemned, ((),))

    def test_kept_objects(self):
        runtime = Runtime(EXAMPLE)
        runtime.execute(("deref", 2, 0))
        runtime.execute(("clear", 2))
        self.assertIs(runtime.condemn((2,)), False)
        runtime.execute(("end",))
        self.assertIs(runtime.condemn((2,)), True)

    def test_numbers_that_are_no_objects(self):
        for numbers in ((4,), (2, 3, 4), (-1,), (-1, 2), (99,), (2, 99)):
            runtime = Runtime(EXAMPLE)
            self.assertIs(runtime.condemn(numbers), False)
            self.assertEqual(fields(runtime), (("state", EXAMPLE, ()), (), ()))

    def test_not_twice(self):
        runtime = Runtime(EXAMPLE)
        self.assertIs(runtime.condemn((2, 3)), True)
        self.assertIs(runtime.condemn((2,)), False)
        self.assertIs(runtime.condemn((2, 3)), False)
        runtime.execute(("end",))
        self.assertEqual(runtime.condemned, ((2, 3),))


class Collect(unittest.TestCase):
    def test_the_greatest_set_of_the_candidates(self):
        for candidates, numbers in (((0, 1, 2, 3), (2, 3)), ((3, 2), (2, 3)), ((1, 2), (2,)), ((3,), ()), ((), ())):
            runtime = Runtime(EXAMPLE)
            self.assertEqual(runtime.collect(candidates), numbers)
            self.assertEqual(runtime.state, ("state", condemn(EXAMPLE, numbers)[0], ()))
            self.assertEqual((runtime.log, runtime.condemned), ((), ()))

    def test_numbers_that_are_no_objects_are_passed_over(self):
        runtime = Runtime(EXAMPLE)
        self.assertEqual(runtime.collect((99, 3, 4, -1, 2)), (2, 3))
        self.assertEqual(runtime.collect((99, 3, 4, 2)), ())
        runtime.execute(("end",))
        self.assertEqual(runtime.condemned, ((2, 3),))

    def test_made_objects(self):
        runtime = Runtime(EXAMPLE)
        runtime.execute(("record", 2, 1))
        self.assertEqual(runtime.collect((4, 2)), (2,))
        runtime.execute(("clear", 2))
        self.assertEqual(runtime.collect((4, 2)), (4,))
        runtime.execute(("drain",))
        self.assertEqual(runtime.condemned, ((), (2,), (4,)))


class Condemned(unittest.TestCase):
    def test_what_was_condemned_behind_the_observation_before(self):
        runtime = Runtime(WATCHED)
        runtime.condemn((4,))
        runtime.collect((2,))
        self.assertEqual(runtime.condemned, ())
        runtime.execute(("end",))
        self.assertEqual(runtime.condemned, ((2, 4),))
        runtime.execute(("end",))
        runtime.condemn((3,))
        self.assertEqual(runtime.condemned, ((2, 4), ()))
        runtime.execute(("drain",))
        self.assertEqual(runtime.condemned, ((2, 4), (), (3,)))
        self.assertEqual(runtime.log, ((("end",), None), (("end",), None), (("drain",), (7, 1, 5, 1))))

    def test_it_rises_whatever_the_order(self):
        runtime = Runtime(heap_of((None,), *[("record", number, ()) for number in range(12)]))
        runtime.condemn((11, 3))
        runtime.condemn((7, 0))
        runtime.execute(("end",))
        self.assertEqual(runtime.condemned, ((0, 3, 7, 11),))


def random_script(seed, heap, length):
    """Commands, some of which fail, and those of a collector, of numbers some of which are no objects."""
    chance = random.Random(seed)
    script = []
    for _ in range(length):
        numbers = range(heap[1] + 4)
        word = chance.choice(("condemn", "collect", "other", "other", "other"))
        if word == "other":
            script.append(random_command(chance, len(heap[2])))
        elif word == "condemn":
            script.append((word, tuple(chance.sample(numbers, chance.randrange(min(3, len(numbers)))))))
        else:
            script.append((word, tuple(number for number in numbers if chance.random() < 0.5)))
    return tuple(script)


class Model:
    """What a Runtime is to be, by the plain functions."""

    def __init__(self, heap):
        self.state = ("state", heap, ())
        self.log = []
        self.condemned = []
        self.lately = []

    def give_up(self, numbers):
        heap, _, _, tokens = condemn(self.state[1], numbers)
        self.state = ("state", heap, self.state[2] + tokens)
        self.lately += numbers

    def step(self, command):
        heap = self.state[1]
        if command[0] == "condemn":
            right = set(command[1]) <= set(numbers_in(heap)) and is_condemnable(heap, command[1])
            if right:
                self.give_up(command[1])
            return right
        if command[0] == "collect":
            numbers = greatest(heap, tuple(number for number in command[1] if number in numbers_in(heap)))
            self.give_up(numbers)
            return numbers
        try:
            self.state, result = do(self.state, command)
        except CommandFault as fault:
            return ("fault", fault.reason)
        self.log.append((command, result))
        self.condemned.append(tuple(sorted(self.lately)))
        self.lately = []
        return result


def step_of(runtime, command):
    if command[0] == "condemn":
        return runtime.condemn(command[1])
    if command[0] == "collect":
        return runtime.collect(command[1])
    try:
        return runtime.execute(command)
    except CommandFault as fault:
        return ("fault", fault.reason)


class ManyScripts(unittest.TestCase):
    def test_as_the_plain_functions(self):
        kinds = set()
        for seed in range(200):
            heap = random_heap(seed, most=8) if seed % 2 else lively_heap(seed)
            runtime, model = Runtime(heap), Model(heap)
            results = []
            script = random_script(seed, heap, 40)
            for command in script:
                result = step_of(runtime, command)
                results.append(result)
                expected = model.step(command)
                self.assertEqual(result, expected, (heap, command))
                self.assertIs(type(result), type(expected))
                self.assertEqual(fields(runtime), (model.state, tuple(model.log), tuple(model.condemned)))
                kinds.add((command[0], result if type(result) is bool else result == ()))
            self.assertEqual(run(heap, script), tuple(results))
            self.assertIs(explains(heap, runtime.log, runtime.condemned), True)
        for kind in (("condemn", True), ("condemn", False), ("collect", True), ("collect", False), ("drain", False)):
            self.assertIn(kind, kinds)

    def test_what_was_condemned_explains_the_log(self):
        for seed in range(60):
            heap = lively_heap(seed)
            runtime = Runtime(heap)
            for command in random_script(seed, heap, 12):
                if command[0] not in ("record", "weak", "table"):
                    step_of(runtime, command)
            self.assertIs(explains_slowly(heap, runtime.log, runtime.condemned), True)


class Run(unittest.TestCase):
    def test_the_results(self):
        script = (
            ("collect", (3, 99)), ("condemn", (3,)), ("deref", 2, 0), ("read", 2, 1, 0), ("collect", (2, 3)),
            ("clear", 2), ("condemn", (2, 3)), ("end",), ("collect", (3, 2, 99)), ("deref", 2, 1), ("drain",),
            ("condemn", (2, 3)), ("condemn", ()), ("deref", 2, 2), ("drain",),
        )
        self.assertEqual(
            run(WATCHED, script),
            ((), False, 2, ("fault", "not a record"), (), None, False, None, (2, 3), None, (5, 1, 1), False, True,
             ("fault", "register is empty"), ()),
        )

    def test_the_empty_script(self):
        self.assertEqual(run(EXAMPLE, ()), ())

    def test_faults_do_not_end_it(self):
        self.assertEqual(
            run(EXAMPLE, (("read", 0, 2, 0), ("read", 0, 0, 0), ("record", 2, 1), ("read", 0, 2, 1))),
            (("fault", "register is empty"), ("fault", "not a record"), 4, ("fault", "no such field")),
        )


class Kinds(unittest.TestCase):
    def test_they_are_tuples_and_truth_values(self):
        runtime = Runtime(WATCHED)
        self.assertIs(type(runtime.collect((2, 3))), tuple)
        self.assertIs(type(runtime.condemn((4,))), bool)
        runtime.execute(("drain",))
        for field in fields(runtime):
            self.assertIs(type(field), tuple)
        self.assertIs(type(runtime.condemned[0]), tuple)
        self.assertIs(type(runtime.log[0]), tuple)
        self.assertIs(type(run(EXAMPLE, ())), tuple)


if __name__ == "__main__":
    unittest.main()
