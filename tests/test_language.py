"""Point 1 of the document, and those rules of the language that a walk through the source can see."""

import ast
import builtins
import pathlib
import tokenize
import unittest

PACKAGE = pathlib.Path(__file__).resolve().parent.parent / "columnbook"
ALLOWED_NAMES = set("""
    len range enumerate zip min max sum abs sorted reversed int str bool list tuple dict set frozenset
    isinstance ord repr any all divmod Exception ValueError TypeError KeyError IndexError LookupError
    ZeroDivisionError ArithmeticError OverflowError RuntimeError NotImplementedError AttributeError
    StopIteration
""".split())


def sources():
    return sorted(PACKAGE.rglob("*.py"))


def nodes_of(path):
    return list(ast.walk(ast.parse(path.read_text(encoding="utf-8"))))


class Source(unittest.TestCase):
    def test_package_holds_python_files_alone(self):
        found = [path for path in PACKAGE.rglob("*") if "__pycache__" not in path.parts]
        self.assertEqual(sorted(found), sources())
        self.assertIn(PACKAGE / "__init__.py", found)

    def test_imports_are_the_packages_own(self):
        for path in sources():
            for node in nodes_of(path):
                self.assertNotIsInstance(node, ast.Import, path.name)
                if isinstance(node, ast.ImportFrom):
                    self.assertEqual(node.level, 0, path.name)
                    self.assertTrue(node.module.startswith("columnbook."), path.name)

    def test_no_built_in_name_that_reaches_outside(self):
        for path in sources():
            names = {node.id for node in nodes_of(path) if isinstance(node, ast.Name)}
            self.assertEqual(sorted((names & set(dir(builtins))) - ALLOWED_NAMES), [], path.name)

    def test_signs_and_sizes(self):
        for path in sources():
            text = path.read_text(encoding="utf-8")
            self.assertTrue(all(sign == "\n" or " " <= sign <= "~" for sign in text), path.name)
            self.assertLessEqual(len(text.splitlines()), 400, path.name)
            self.assertLessEqual(max(len(line) for line in text.splitlines()), 120, path.name)
            for node in nodes_of(path):
                if isinstance(node, ast.FunctionDef):
                    self.assertLessEqual(node.end_lineno - node.lineno + 1, 40, path.name)

    def test_no_percent_sign_in_a_text(self):
        for path in sources():
            with tokenize.open(path) as rows:
                tokens = list(tokenize.generate_tokens(rows.readline))
            # As an operator the sign is allowed; anywhere else it stands within a text or a remark.
            self.assertEqual([t.string for t in tokens if "%" in t.string and t.type != tokenize.OP], [], path.name)


if __name__ == "__main__":
    unittest.main()
