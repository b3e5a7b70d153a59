"""The package's own files: no clock, chance or files (point 1), and the form the program is written in."""

import ast
import builtins
import pathlib
import unittest

import yardturn

FOLDER = pathlib.Path(yardturn.__file__).resolve().parent

OWN_NAMES_OF_PYTHON = set(
    "len range enumerate zip min max sum abs sorted reversed int str bool list tuple dict set frozenset "
    "isinstance ord repr any all divmod Exception ValueError TypeError KeyError IndexError LookupError "
    "ZeroDivisionError ArithmeticError OverflowError RuntimeError NotImplementedError AttributeError "
    "StopIteration".split()
)

LEFT_OUT = (
    ast.With, ast.Match, ast.Delete, ast.Global, ast.Nonlocal, ast.Assert, ast.Yield, ast.YieldFrom,
    ast.AsyncFunctionDef, ast.AsyncFor, ast.AsyncWith, ast.Await, ast.Import, ast.Div, ast.SetComp,
    ast.DictComp, ast.GeneratorExp, ast.NamedExpr, ast.Starred,
)


def files():
    return sorted(path for path in FOLDER.rglob("*") if path.is_file() and "__pycache__" not in path.parts)


def nodes():
    for path in files():
        for node in ast.walk(ast.parse(path.read_text(encoding="utf-8"))):
            yield path.name, node


class PackageFiles(unittest.TestCase):
    def test_python_files_alone(self):
        names = [path.name for path in files()]
        self.assertIn("__init__.py", names)
        self.assertEqual([name for name in names if not name.endswith(".py")], [])

    def test_signs_and_sizes(self):
        for path in files():
            text = path.read_bytes().decode("ascii")
            rows = text.split("\n")
            self.assertLessEqual(len(rows), 401, path.name)
            for row in rows:
                self.assertLessEqual(len(row), 120, path.name)
                self.assertTrue(all(" " <= sign <= "~" for sign in row), (path.name, row))

    def test_imports_are_the_package_s_own(self):
        for name, node in nodes():
            if isinstance(node, ast.ImportFrom):
                self.assertEqual(node.level, 0, name)
                self.assertEqual(node.module.split(".")[0], "yardturn", name)

    def test_no_name_of_python_s_that_reads_or_writes(self):
        for name, node in nodes():
            if isinstance(node, ast.Name) and hasattr(builtins, node.id):
                self.assertIn(node.id, OWN_NAMES_OF_PYTHON, name)

    def test_plain_names(self):
        for name, node in nodes():
            if isinstance(node, ast.Name):
                self.assertFalse(node.id.startswith("_"), (name, node.id))
            if isinstance(node, ast.arg):
                self.assertFalse(hasattr(builtins, node.arg), (name, node.arg))

    def test_plain_forms(self):
        for name, node in nodes():
            self.assertNotIsInstance(node, LEFT_OUT, name)
            if isinstance(node, ast.Constant):
                self.assertIn(type(node.value), (int, str, bool, type(None)), name)

    def test_no_else_behind_a_loop(self):
        for name, node in nodes():
            if isinstance(node, (ast.For, ast.While)):
                self.assertEqual(node.orelse, [], name)

    def test_names_are_drawn_from_the_file_that_defines_them(self):
        for name, node in nodes():
            if isinstance(node, ast.ImportFrom):
                drawn_from = FOLDER.parent.joinpath(*node.module.split(".")).with_suffix(".py")
                tops = ast.parse(drawn_from.read_text(encoding="utf-8")).body
                defined = [top.name for top in tops if isinstance(top, (ast.FunctionDef, ast.ClassDef))]
                for drawn in node.names:
                    self.assertIn(drawn.name, defined, name)

    def test_no_two_files_draw_from_one_another(self):
        drawn_from = {path.stem: set() for path in files()}
        for name, node in nodes():
            if isinstance(node, ast.ImportFrom):
                drawn_from[name.removesuffix(".py")].add(node.module.split(".")[-1])
        # Files that draw from nothing left are set aside; whatever stays draws from itself in some steps.
        while any(not drawn for drawn in drawn_from.values()):
            free = {name for name, drawn in drawn_from.items() if not drawn}
            drawn_from = {name: drawn - free for name, drawn in drawn_from.items() if name not in free}
        self.assertEqual(drawn_from, {})

    def test_short_functions_without_decorators(self):
        for name, node in nodes():
            if isinstance(node, (ast.FunctionDef, ast.ClassDef)):
                self.assertEqual(node.decorator_list, [], name)
            if isinstance(node, ast.FunctionDef):
                self.assertLessEqual(node.end_lineno - node.lineno + 1, 40, (name, node.name))


if __name__ == "__main__":
    unittest.main()
