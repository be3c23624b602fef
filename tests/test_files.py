"""What ../shared/LANGUAGE.md says of sizes and signs, and the examples of the README."""

import ast
import doctest
import pathlib
import re
import unittest

ROOT = pathlib.Path(__file__).resolve().parent.parent
FILES = sorted((ROOT / "weakcourt").rglob("*.py"))


class Sizes(unittest.TestCase):
    def test_files_and_lines(self):
        for file in FILES:
            text = file.read_text(encoding="utf-8")
            lines = text.split("\n")
            with self.subTest(file=file.name):
                self.assertLessEqual(len(lines), 400)
                self.assertLessEqual(max(len(line) for line in lines), 120)
                self.assertTrue(all(sign == "\n" or " " <= sign <= "~" for sign in text))

    def test_functions(self):
        for file in FILES:
            for node in ast.walk(ast.parse(file.read_text(encoding="utf-8"))):
                if isinstance(node, ast.FunctionDef):
                    self.assertLessEqual(node.end_lineno - node.lineno + 1, 40, f"{file.name}: {node.name}")


class Readme(unittest.TestCase):
    def test_its_examples(self):
        blocks = re.findall(r"```\n(>>>.*?)```", (ROOT / "README.md").read_text(encoding="utf-8"), re.DOTALL)
        self.assertTrue(blocks)
        for block in blocks:
            test = doctest.DocTestParser().get_doctest(block, {}, "README.md", "README.md", 0)
            told = []
            failed = doctest.DocTestRunner().run(test, out=told.append).failed
            self.assertEqual(failed, 0, "".join(told))


if __name__ == "__main__":
    unittest.main()
