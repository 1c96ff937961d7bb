"""The package keeps to the small part of Python that it is written in, as far as a test can see it."""

import ast
import builtins
import pathlib
import re
import unittest

PACKAGE = pathlib.Path(__file__).resolve().parent.parent / "onestream"

STATEMENTS = (ast.FunctionDef, ast.ClassDef, ast.ImportFrom, ast.Assign, ast.AugAssign, ast.If, ast.While, ast.For,
              ast.Return, ast.Break, ast.Continue, ast.Pass, ast.Raise, ast.Try, ast.Expr)

NOT_USED = (ast.Lambda, ast.DictComp, ast.SetComp, ast.GeneratorExp, ast.NamedExpr, ast.Starred, ast.Set, ast.Div,
            ast.AnnAssign, ast.Yield, ast.Await)

OWN_NAMES_OF_PYTHON = ("len range enumerate zip min max sum abs sorted reversed int str bool list tuple dict set "
                       "frozenset isinstance ord repr any all divmod KeyError ValueError Exception").split()

METHODS_OF_PYTHON = ("append clear copy count extend find get index insert items join keys pop remove replace "
                     "reverse setdefault update values").split()

WORDS = ("type typing typing_extensions enum Enum IntEnum StrEnum Flag IntFlag Generic Protocol ABC ABCMeta "
         "namedtuple NamedTuple TypedDict TYPE_CHECKING abstractmethod").split()

NAMES = ("register mro elements open input version_info with_traceback add_note compile credits dir eval exec exit "
         "getattr globals help id locals os quit setattr super vars sys").split()


def sources():
    return sorted(path for path in PACKAGE.rglob("*") if "__pycache__" not in path.parts)


def trees():
    return [(path.name, ast.parse(path.read_text())) for path in sources()]


def walked():
    return [(name, node) for name, tree in trees() for node in ast.walk(tree)]


def bound_names(node):
    if isinstance(node, (ast.FunctionDef, ast.ClassDef)):
        return [node.name]
    if isinstance(node, ast.arg):
        return [node.arg]
    if isinstance(node, ast.Name) and isinstance(node.ctx, ast.Store):
        return [node.id]
    return []


class Files(unittest.TestCase):
    def test_signs_and_sizes(self):
        for path in sources():
            self.assertRegex(path.name, r"^[a-z_]+\.py$")
            text = path.read_bytes().decode("ascii")
            self.assertEqual([sign for sign in text if sign != "\n" and not " " <= sign <= "~"], [], path.name)
            rows = text.split("\n")
            self.assertLessEqual(len(rows), 400, path.name)
            self.assertLessEqual(max(len(row) for row in rows), 120, path.name)

    def test_words(self):
        for path in sources():
            words = re.findall(r"\w+", path.read_text())
            self.assertEqual([word for word in words if word in WORDS], [], path.name)

    def test_functions_have_40_lines_at_most(self):
        for name, node in walked():
            if isinstance(node, ast.FunctionDef):
                self.assertLessEqual(node.end_lineno - node.lineno + 1, 40, (name, node.name))


class Code(unittest.TestCase):
    def test_statements_and_expressions(self):
        for name, node in walked():
            where = (name, getattr(node, "lineno", 0))
            if isinstance(node, ast.stmt):
                self.assertIsInstance(node, STATEMENTS, where)
            self.assertNotIsInstance(node, NOT_USED, where)
            if isinstance(node, ast.Constant):
                self.assertNotIsInstance(node.value, (float, bytes), where)
            if isinstance(node, (ast.For, ast.While)):
                self.assertEqual(node.orelse, [], where)
            if isinstance(node, ast.Assign):
                self.assertEqual(len(node.targets), 1, where)

    def test_imports_are_the_packages_own(self):
        for name, node in walked():
            if isinstance(node, ast.ImportFrom):
                self.assertEqual(node.level, 0, name)
                self.assertTrue(node.module.startswith("onestream."), name)
                home = ast.parse((PACKAGE / (node.module.split(".")[1] + ".py")).read_text())
                bound = [made for row in home.body for sub in [row] + getattr(row, "targets", [])
                         for made in bound_names(sub)]
                for alias in node.names:
                    self.assertIn(alias.name, bound, name)

    def test_names(self):
        own_of_python = dir(builtins)
        for name, node in walked():
            for bound in bound_names(node):
                if bound != "__init__":
                    self.assertRegex(bound, r"^[A-Za-z][A-Za-z0-9_]*$", name)
                    self.assertNotIn(bound, own_of_python, name)
                self.assertNotIn(bound, NAMES, name)
            if isinstance(node, ast.Attribute):
                self.assertNotIn(node.attr, NAMES, name)
            if isinstance(node, ast.Name) and node.id in own_of_python:
                self.assertIn(node.id, OWN_NAMES_OF_PYTHON, name)

    def test_no_name_is_a_method_and_a_value(self):
        methods = [node.name for place, top in walked() if isinstance(top, ast.ClassDef) for node in top.body]
        for name, tree in trees():
            calls = {id(node.func) for node in ast.walk(tree) if isinstance(node, ast.Call)}
            for node in ast.walk(tree):
                if isinstance(node, ast.Attribute) and id(node) in calls:
                    self.assertIn(node.attr, methods + METHODS_OF_PYTHON, name)
                elif isinstance(node, ast.Attribute):
                    self.assertNotIn(node.attr, methods, name)


if __name__ == "__main__":
    unittest.main()
