"""The example of DOC.md, as far as the program goes."""

import unittest

from weakcourt.condemning import along, is_condemnable
from weakcourt.derivations import derive
from weakcourt.text import parse_heap


class Example(unittest.TestCase):
    def test_one_heap(self):
        heap = parse_heap("registers 0 1 -\n0 weak 2\n1 weak 3\n2 record 3\n3 record\n")
        self.assertEqual(
            (is_condemnable(heap, (3,)), is_condemnable(heap, (2, 3)), along(heap, 3)), (False, True, (2, 3))
        )
        self.assertEqual(derive(heap, (3,), 3), ((0, ("register", 0)), (2, ("deref", 0)), (3, ("field", 2, 0))))


if __name__ == "__main__":
    unittest.main()
