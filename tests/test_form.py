"""The package's own files: their size, their signs, and that they import and print nothing."""

import ast
import builtins
import pathlib
import re
import unittest

PACKAGE = pathlib.Path(__file__).resolve().parent.parent / "sawnstock"
FILES = sorted(path for path in PACKAGE.rglob("*") if path.is_file() and "__pycache__" not in path.parts)

ALLOWED_NAMES = """len range enumerate zip min max sum abs sorted reversed int str bool list tuple dict set frozenset
isinstance ord repr any all divmod Exception ValueError KeyError ZeroDivisionError""".split()
ALLOWED_METHODS = """append clear copy count endswith extend find get index insert items join keys pop remove replace
reverse setdefault split startswith strip update values""".split()
OTHER_WORDS = """type typing typing_extensions enum Enum IntEnum StrEnum Flag IntFlag Generic Protocol ABC ABCMeta
namedtuple NamedTuple TypedDict TYPE_CHECKING abstractmethod""".split()
OTHER_NODES = (
    ast.Import, ast.With, ast.Match, ast.Delete, ast.Global, ast.Nonlocal, ast.Assert, ast.Yield, ast.YieldFrom,
    ast.AsyncFunctionDef, ast.SetComp, ast.DictComp, ast.GeneratorExp, ast.NamedExpr, ast.Starred, ast.Div,
    ast.AnnAssign, ast.Set,
)


def trees():
    return [(path.name, ast.parse(path.read_text(encoding="ascii"))) for path in FILES]


class Form(unittest.TestCase):
    def test_files(self):
        self.assertIn("__init__.py", [path.name for path in FILES])
        for path in FILES:
            self.assertRegex(path.name, "^[a-z0-9_]+\\.py$")

    def test_signs_words_and_sizes(self):
        for path in FILES:
            text = path.read_bytes().decode("ascii")
            self.assertRegex(text, "\\A[ -~\n]*\\Z")
            self.assertLessEqual(text.count("\n"), 400)
            self.assertLessEqual(max(len(line) for line in text.split("\n")), 120)
            self.assertEqual([word for word in OTHER_WORDS if re.search(rf"\b{word}\b", text)], [])

    def test_functions_are_short_and_plain(self):
        for name, tree in trees():
            for node in ast.walk(tree):
                if isinstance(node, ast.FunctionDef):
                    where = f"{name}:{node.lineno}"
                    self.assertLessEqual(node.end_lineno - node.lineno + 1, 40, where)
                    self.assertEqual(node.decorator_list, [], where)
                    self.assertIsNone(node.args.vararg or node.args.kwarg, where)

    def test_nothing_outside_the_language(self):
        for name, tree in trees():
            for node in ast.walk(tree):
                self.assertNotIsInstance(node, OTHER_NODES, name)
                if isinstance(node, ast.ImportFrom):
                    self.assertRegex(node.module, "^sawnstock\\.", name)
                if isinstance(node, ast.Constant):
                    self.assertNotIsInstance(node.value, (float, complex, bytes), name)

    def test_names_are_the_program_s_own_or_allowed(self):
        own = set(ALLOWED_NAMES)
        called = set()
        for name, tree in trees():
            for node in ast.walk(tree):
                if isinstance(node, (ast.FunctionDef, ast.ClassDef)):
                    own.add(node.name)
                elif isinstance(node, ast.arg):
                    own.add(node.arg)
                elif isinstance(node, ast.Name) and isinstance(node.ctx, ast.Store):
                    self.assertNotIn(node.id, ALLOWED_NAMES, name)
                    own.add(node.id)
                elif isinstance(node, ast.Call) and isinstance(node.func, ast.Attribute):
                    called.add(node.func.attr)
        for name, tree in trees():
            for node in ast.walk(tree):
                if isinstance(node, ast.Name):
                    self.assertIn(node.id, own, f"{name}:{node.lineno}")
        self.assertEqual(called - own - set(ALLOWED_METHODS), set())
        self.assertEqual((own - set(ALLOWED_NAMES)) & set(dir(builtins)), set())
        self.assertEqual([name for name in own if name.startswith("_") and name != "__init__"], [])

    def test_each_name_once_at_a_file_s_top_and_one_target(self):
        for name, tree in trees():
            tops = [node.name for node in tree.body if isinstance(node, (ast.FunctionDef, ast.ClassDef))]
            for node in ast.walk(tree):
                if isinstance(node, ast.Assign):
                    self.assertEqual(len(node.targets), 1, f"{name}:{node.lineno}")
                    self.assertIsInstance(node.targets[0], (ast.Name, ast.Attribute, ast.Subscript))
                    if node in tree.body:
                        tops.append(node.targets[0].id)
            self.assertEqual(len(tops), len(set(tops)), name)


if __name__ == "__main__":
    unittest.main()
