import unittest

from weakcourt.errors import CommandFault, CourtError, TextFault


class Errors(unittest.TestCase):
    def test_all_are_below_court_error_and_value_error(self):
        self.assertTrue(issubclass(CourtError, ValueError))
        self.assertTrue(issubclass(TextFault, CourtError))
        self.assertTrue(issubclass(CommandFault, CourtError))
        self.assertFalse(issubclass(TextFault, CommandFault))
        self.assertFalse(issubclass(CommandFault, TextFault))

    def test_fields(self):
        fault = TextFault(3, "does not rise")
        self.assertEqual((fault.line, fault.reason), (3, "does not rise"))
        self.assertEqual(CommandFault("not a table").reason, "not a table")


if __name__ == "__main__":
    unittest.main()
