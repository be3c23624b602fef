import random
import unittest

from tests.samples import heap_of, random_heap
from weakcourt.errors import CourtError, TextFault
from weakcourt.text import format_heap, parse_heap

EXAMPLE = "registers 0 1 -\n0 weak 2\n1 weak 3\n2 record 3\n3 record\n"

FORMS = (
    (heap_of((None,)), "registers -\n"),
    (heap_of((None, None)), "registers - -\n"),
    (heap_of((None,), next=7), "next 7\nregisters -\n"),
    (heap_of((0,), ("record", 0, ())), "registers 0\n0 record\n"),
    (heap_of((0,), ("record", 0, ()), next=2), "next 2\nregisters 0\n0 record\n"),
    (
        heap_of((None, 9, 2), ("record", 2, (None, 9, 2, None)), ("weak", 9, 2)),
        "registers - 9 2\n2 record - 9 2 -\n9 weak 2\n",
    ),
    (
        heap_of((3,), ("weak", 3, None), ("weak", 5, 5), next=999),
        "next 999\nregisters 3\n3 weak -\n5 weak 5\n",
    ),
    (
        heap_of((0,), ("table", 0, ()), ("table", 10, ((10, 0), (0, 0)))),
        "registers 0\n0 table\n10 table 10:0 0:0\n",
    ),
    (
        heap_of((4,), ("record", 4, ()), ("record", 6, ()), ("record", 8, (4,)), kept=(4, 8)),
        "registers 4\nkept 4 8\n4 record\n6 record\n8 record 4\n",
    ),
    (
        heap_of(
            (1,),
            ("record", 0, ()),
            ("record", 1, ()),
            kept=(1,),
            next=3,
            watches=((1, 5), (0, 0), (1, 5), (1, 2)),
        ),
        "next 3\nregisters 1\nkept 1\n0 record\n1 record\nwatch 1 5\nwatch 0 0\nwatch 1 5\nwatch 1 2\n",
    ),
    (
        heap_of(
            (0, 1, None),
            ("weak", 0, 2),
            ("weak", 1, 3),
            ("record", 2, (3,)),
            ("record", 3, ()),
        ),
        EXAMPLE,
    ),
)

# Behind "registers 0" and "0 record": the lines are the third ones.
NO_SUCH_LINES = (
    " ",
    "\t",
    "\r",
    " # a blank ahead",
    "object",
    "Registers 0",
    "register 0",
    "1",
    "1 ",
    "1 records",
    "1 Record",
    "record 1",
    "-1 record",
    "+1 record",
    "01 record",
    "00 record",
    "1.0 record",
    "x record",
    "- record",
    "\u0661 record",
    "\u00b2 record",
    "1_0 record",
    "1  record",
    " 1 record",
    "1 record ",
    "1 record  0",
    "1 record 0 ",
    "1 record\t0",
    "1 record 00",
    "1 record -0",
    "1 record +0",
    "1 record --",
    "1 record 0,0",
    "1 record 0:0",
    "1 record None",
    "1 weak",
    "1 weak ",
    "1 weak 0 0",
    "1 weak 0 ",
    "1 weak 0:0",
    "1 weak 00",
    "1 table ",
    "1 table 0",
    "1 table -",
    "1 table 0:",
    "1 table :0",
    "1 table :",
    "1 table 0:-",
    "1 table -:0",
    "1 table 0:0:0",
    "1 table 0: 0",
    "1 table 0:00",
    "1 table 00:0",
    "1 table 0:0 ",
    "1 table  0:0",
    "1 table 0:0 0",
    "next",
    "next ",
    "next -",
    "next 05",
    "next -5",
    "next +5",
    "next five",
    "next 5 6",
    "next  5",
    "next 5 ",
    "registers",
    "registers ",
    "registers  0",
    "registers 0 ",
    "registers 0  0",
    "registers 00",
    "registers x",
    "registers 0:0",
    "kept",
    "kept ",
    "kept -",
    "kept 0 -",
    "kept 0 ",
    "kept 00",
    "kept x",
    "watch",
    "watch 0",
    "watch 0 ",
    "watch 0 1 2",
    "watch - 1",
    "watch 0 -",
    "watch 0 01",
    "watch 0 -1",
    "watch 0  1",
    "watch 0 1 ",
    "0 watch 1",
)

FAULTS = (
    # Each reason once.
    ("registers -\nnonsense\n", 2, "no such line"),
    ("next 1\nregisters -\nnext 1\n", 3, "stands twice"),
    ("registers -\nregisters -\n", 2, "stands twice"),
    ("registers 0\nkept 0\n0 record\nkept 0\n", 4, "stands twice"),
    ("next 3\nregisters -\n3 record\n", 1, "next too small"),
    ("registers -\nkept 1 0\n0 record\n1 record\n", 2, "does not rise"),
    ("registers -\nkept 0 0\n0 record\n", 2, "does not rise"),
    ("registers -\n1 record\n0 record\n", 3, "does not rise"),
    ("registers -\n1 record\n1 weak -\n", 3, "does not rise"),
    ("registers -\n0 table 0:0 0:0\n", 2, "key stands twice"),
    ("registers -\n0 table 1:0 0:1 1:1\n1 record\n", 2, "key stands twice"),
    ("registers - 4\n3 record\n", 1, "unknown object 4"),
    ("registers -\nkept 2\n", 2, "unknown object 2"),
    ("registers -\n0 record - 0 7 8\n", 2, "unknown object 7"),
    ("registers -\n0 weak 1\n", 2, "unknown object 1"),
    ("registers -\n0 table 0:5 6:0\n", 2, "unknown object 5"),
    ("registers -\n0 table 6:5\n", 2, "unknown object 6"),
    ("registers -\nwatch 0 0\n", 2, "unknown object 0"),
    # Without registers.
    ("", 0, "no registers"),
    ("\n\n", 0, "no registers"),
    ("# registers 0\n0 record\n", 0, "no registers"),
    ("next 5\n0 record\nwatch 0 1\n", 0, "no registers"),
    # Without registers and with another fault: the line is first.
    ("next 0\n0 record\n", 1, "next too small"),
    ("0 record 1\n", 1, "unknown object 1"),
    # Lines that are left out are counted.
    ("\n# heap\nregisters -\n\nnonsense", 5, "no such line"),
    # next is compared with all numbers of objects, also with those behind it and ahead of it.
    ("next 0\nregisters -\n0 record\n", 1, "next too small"),
    ("registers -\n5 record\nnext 5\n", 3, "next too small"),
    ("next 4\nregisters -\n2 record\n4 record\n9 record\n", 1, "next too small"),
    # The first line of several that have faults.
    ("registers 9\nnonsense\n", 1, "unknown object 9"),
    ("nonsense\nregisters 9\n", 1, "no such line"),
    ("registers -\n0 weak 5\n0 record\nregisters -\n", 2, "unknown object 5"),
    ("registers -\n2 record\n1 record\n0 record\n", 3, "does not rise"),
    # A line that is none of [t1] has no object.
    ("registers 3\n3 records\n", 1, "unknown object 3"),
    ("next 3\nregisters 0\n5  record\n", 2, "unknown object 0"),
    # The first reason of several in one line.
    ("next 9\nregisters -\n3 record\nnext 2\n", 4, "stands twice"),
    ("registers -\nregisters 8\n", 2, "stands twice"),
    ("registers -\n1 record\nkept 1\nkept 9 8\n", 4, "stands twice"),
    ("registers -\nkept 9 8\n", 2, "does not rise"),
    ("registers -\n1 record\n0 record 9\n", 3, "does not rise"),
    ("registers -\n1 record\n0 weak 9\n", 3, "does not rise"),
    ("registers -\n1 record\n0 table 1:1 1:1\n", 3, "does not rise"),
    ("registers -\n0 table 9:0 0:0 0:0\n", 2, "key stands twice"),
    ("registers 0\n0 record  9\n", 1, "unknown object 0"),
    # An object line with another fault is the one before all the same, and has its object.
    ("registers 2\n3 record\n2 record\n", 3, "does not rise"),
)


class Forms(unittest.TestCase):
    def test_format_gives_these_lines(self):
        for heap, text in FORMS:
            with self.subTest(text=text):
                self.assertEqual(format_heap(heap), text)

    def test_parse_gives_the_heap_back(self):
        for heap, text in FORMS:
            with self.subTest(text=text):
                self.assertEqual(parse_heap(text), heap)

    def test_the_last_line_needs_no_newline(self):
        for heap, text in FORMS:
            with self.subTest(text=text):
                self.assertEqual(parse_heap(text[:-1]), heap)

    def test_there_and_back_for_many_heaps(self):
        for seed in range(300):
            heap = random_heap(seed)
            with self.subTest(heap=heap):
                self.assertEqual(parse_heap(format_heap(heap)), heap)

    def test_beyond_the_bounds(self):
        objects = [("record", number, (number,) * 9) for number in range(990, 1050)]
        watches = tuple((1000, token) for token in range(2000, 2020))
        heap = heap_of((1000,) * 20, *objects, watches=watches)
        self.assertEqual(parse_heap(format_heap(heap)), heap)


class ReadFreely(unittest.TestCase):
    def test_lines_in_another_order(self):
        text = "2 record\nwatch 5 1\nkept 2\n5 weak 2\nregisters 5\nwatch 2 0\nnext 8\n"
        heap = heap_of(
            (5,), ("record", 2, ()), ("weak", 5, 2), next=8, kept=(2,), watches=((5, 1), (2, 0))
        )
        self.assertEqual(parse_heap(text), heap)

    def test_lines_of_many_heaps_in_another_order(self):
        for seed in range(200):
            heap = random_heap(seed)
            lines = format_heap(heap).split("\n")[:-1]
            self.assertEqual(parse_heap("\n".join(self.mixed(lines, seed))), heap)

    def mixed(self, lines, seed):
        """The lines in another order, but those of objects and those of watches in theirs, and others between."""
        chance = random.Random(seed)
        ordered = [[line for line in lines if line[0].isdigit()]]
        ordered.append([line for line in lines if line.startswith("watch")])
        ordered.extend([[line] for line in lines if line[0] in "nrk"])
        ordered.append(["", "# next 1", "#", "", "#registers"])
        mixed = []
        while any(ordered):
            mixed.append(chance.choice([row for row in ordered if row]).pop(0))
        return mixed

    def test_empty_lines_and_those_that_begin_with_a_sign(self):
        text = "\n\n#\n# a heap\nregisters 0\n#0 record\n\n##\n0 weak -\n# the end\n\n"
        self.assertEqual(parse_heap(text), heap_of((0,), ("weak", 0, None)))

    def test_next_may_stand_though_it_could_be_left_out(self):
        self.assertEqual(parse_heap("next 0\nregisters -\n"), heap_of((None,)))
        self.assertEqual(parse_heap("registers 4\n4 record\nnext 5\n"), heap_of((4,), ("record", 4, ())))

    def test_next_is_the_least_one_if_it_is_left_out(self):
        self.assertEqual(parse_heap("registers -\n")[1], 0)
        self.assertEqual(parse_heap("registers -\n3 record\n11 record\n")[1], 12)

    def test_objects_may_stand_behind_what_refers_to_them(self):
        text = "watch 1 1\nkept 1\nregisters 1\n0 table 1:1\n1 record 0\n"
        heap = heap_of((1,), ("table", 0, ((1, 1),)), ("record", 1, (0,)), kept=(1,), watches=((1, 1),))
        self.assertEqual(parse_heap(text), heap)


class Faults(unittest.TestCase):
    def assert_fault(self, text, line, reason):
        with self.subTest(text=text):
            with self.assertRaises(TextFault) as caught:
                parse_heap(text)
            fault = caught.exception
            self.assertEqual((fault.line, fault.reason), (line, reason))
            self.assertIsInstance(fault, CourtError)

    def test_lines_that_there_are_not(self):
        for line in NO_SUCH_LINES:
            self.assert_fault(f"registers 0\n0 record\n{line}\n", 3, "no such line")
            self.assert_fault(f"registers 0\n0 record\n{line}", 3, "no such line")

    def test_only_newlines_part_lines(self):
        for sign in ("\r\n", "\x0b", "\x0c", "\x1c", "\x85", "\u2028"):
            self.assert_fault(f"registers 0{sign}0 record\n", 1, "no such line")

    def test_reasons_and_their_lines(self):
        for text, line, reason in FAULTS:
            self.assert_fault(text, line, reason)


if __name__ == "__main__":
    unittest.main()
