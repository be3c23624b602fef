"""The example of DOC.md, line by line."""

import doctest
import pathlib
import re
import unittest

from weakcourt.condemning import along, is_condemnable
from weakcourt.court import Court, audit
from weakcourt.derivations import derive
from weakcourt.papers import accuse, judge
from weakcourt.text import parse_heap

DOC = pathlib.Path(__file__).resolve().parent.parent.parent / "shared" / "DOC.md"
HEAP = parse_heap("registers 0 1 -\n0 weak 2\n1 weak 3\n2 record 3\n3 record\n")
LOG = ((("deref", 2, 1), None), (("deref", 2, 0), 2))


class Example(unittest.TestCase):
    def test_the_heap(self):
        objects = (("weak", 0, 2), ("weak", 1, 3), ("record", 2, (3,)), ("record", 3, ()))
        self.assertEqual(HEAP, ("heap", 4, (0, 1, None), (), objects, ()))

    def test_condemnable_sets(self):
        self.assertEqual(
            (is_condemnable(HEAP, (3,)), is_condemnable(HEAP, (2, 3)), along(HEAP, 3)), (False, True, (2, 3))
        )

    def test_the_derivation(self):
        self.assertEqual(derive(HEAP, (3,), 3), ((0, ("register", 0)), (2, ("deref", 0)), (3, ("field", 2, 0))))

    def test_the_audit(self):
        self.assertEqual(audit(HEAP, LOG), ("unexplained", 1))

    def test_the_paper(self):
        steps = ((0, ("register", 0)), (2, ("later", 1)), (2, ("deref", 0)), (3, ("field", 2, 0)))
        self.assertEqual((accuse(HEAP, LOG), judge(HEAP, LOG, accuse(HEAP, LOG))), (("held", 0, steps), True))

    def test_the_court(self):
        court = Court(HEAP)
        self.assertEqual(
            (court.observe(("deref", 2, 1), None), court.certain(), court.possible()), (True, (2, 3), (2, 3))
        )
        self.assertEqual((court.could_see(("deref", 2, 0)), court.observe(("deref", 2, 0), 2)), ((None,), False))

    @unittest.skipUnless(DOC.exists(), "no document beside this folder")
    def test_as_it_is_written(self):
        block = re.search(r"```\n(>>>.*?)```", DOC.read_text(encoding="utf-8"), re.DOTALL).group(1)
        told = []
        test = doctest.DocTestParser().get_doctest(block, {}, "DOC.md", "DOC.md", 0)
        self.assertEqual(doctest.DocTestRunner().run(test, out=told.append).failed, 0, "".join(told))


if __name__ == "__main__":
    unittest.main()
