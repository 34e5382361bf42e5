"""Those rules of LANGUAGE.md that a short look at the syntax can check, over the whole package."""

import ast
import builtins
import keyword
import pathlib
import re
import unittest

ROOT = pathlib.Path(__file__).resolve().parent.parent
FILES = sorted((ROOT / "orrery").rglob("*.py"))
ALLOWED = set(
    "len range enumerate zip min max sum abs sorted reversed int str bool bytes list tuple dict set isinstance ord "
    "repr any all divmod iter next super Exception ValueError TypeError KeyError IndexError LookupError "
    "ZeroDivisionError ArithmeticError OverflowError RuntimeError NotImplementedError AttributeError StopIteration "
    "NotImplemented print".split()
)
UNUSED = set(
    "register mro elements open input law version_info with_traceback add_note type typing enum eval exec id vars "
    "globals locals help exit quit dir compile os sys gc".split()
)
METHODS = set(
    "append clear copy count endswith extend find get index insert isalnum isalpha isdigit islower isspace isupper "
    "items join keys ljust lower lstrip partition pop remove replace reverse rfind rjust rpartition rsplit rstrip "
    "setdefault split splitlines startswith strip update upper values zfill bit_length sort".split()
)
BARRED = (
    ast.Global, ast.AsyncFunctionDef, ast.AsyncFor, ast.AsyncWith, ast.Await, ast.Div, ast.MatMult, ast.Import,
    ast.TypeIgnore,
)
TREES = {path: ast.parse(path.read_text()) for path in FILES}


def nodes():
    for path, tree in TREES.items():
        for node in ast.walk(tree):
            yield path, node


def bound(tree):
    """The names that a file binds at module level."""
    for node in tree.body:
        if isinstance(node, (ast.FunctionDef, ast.ClassDef)):
            yield node.name
        elif isinstance(node, ast.ImportFrom):
            yield from [alias.name for alias in node.names]
        elif isinstance(node, ast.Assign):
            yield from [target.id for target in node.targets]


class LanguageTest(unittest.TestCase):
    def test_files_and_sizes(self):
        self.assertTrue(FILES)
        self.assertLessEqual(len(FILES), 100)
        for path in (ROOT / "orrery").rglob("*"):
            if path.is_dir():
                if path.name != "__pycache__":
                    self.assertTrue((path / "__init__.py").exists(), path)
            elif path.parent.name != "__pycache__":
                self.assertRegex(path.name, r"^[a-z0-9_]+\.py$")
        for path in FILES:
            text = path.read_text()
            self.assertRegex(text, r"\A[ -~\n]*\Z", path)
            lines = text.splitlines()
            self.assertLessEqual(len(lines), 399, path)
            self.assertLessEqual(max([len(line) for line in lines]), 120, path)

    def test_functions_are_short(self):
        for path, node in nodes():
            if isinstance(node, ast.FunctionDef):
                self.assertLessEqual(node.end_lineno - node.lineno + 1, 40, (path, node.name))
                self.assertEqual(node.decorator_list, [], (path, node.name))

    def test_barred_syntax(self):
        for path, node in nodes():
            self.assertNotIsInstance(node, BARRED, path)
            if isinstance(node, ast.Constant):
                self.assertNotIsInstance(node.value, (float, complex), path)
                if isinstance(node.value, str):
                    self.assertNotIn("%", node.value, path)

    def test_imports_name_the_file_that_defines(self):
        for path, node in nodes():
            if not isinstance(node, ast.ImportFrom):
                continue
            self.assertIn(node, TREES[path].body)
            self.assertEqual(node.level, 0)
            names = [alias.name for alias in node.names]
            self.assertEqual([alias.asname for alias in node.names], [None] * len(names))
            if node.module == "math":
                self.assertEqual(names, ["isqrt"])
                continue
            source = ROOT / (node.module.replace(".", "/") + ".py")
            there = [other.name for other in TREES[source].body
                     if isinstance(other, (ast.FunctionDef, ast.ClassDef))]
            there += [target.id for other in TREES[source].body if isinstance(other, ast.Assign)
                      for target in other.targets]
            self.assertEqual([name for name in names if name not in there], [], path)

    def test_no_circle_of_imports(self):
        ahead = {}
        for path, tree in TREES.items():
            ahead[path] = [ROOT / (node.module.replace(".", "/") + ".py") for node in tree.body
                           if isinstance(node, ast.ImportFrom) and node.module != "math"]
        while ahead:
            free = [path for path in ahead if not [other for other in ahead[path] if other in ahead]]
            self.assertTrue(free, sorted(ahead))
            for path in free:
                del ahead[path]

    def test_names(self):
        for path, tree in TREES.items():
            names = list(bound(tree))
            self.assertEqual(len(names), len(set(names)), path)
            taken = [node.name for node in tree.body if isinstance(node, ast.ClassDef)]
            taken += [alias.name for node in tree.body if isinstance(node, ast.ImportFrom) for alias in node.names]
            local = [node.arg for node in ast.walk(tree) if isinstance(node, ast.arg)]
            local += [node.id for node in ast.walk(tree)
                      if isinstance(node, ast.Name) and isinstance(node.ctx, ast.Store)]
            self.assertEqual(sorted(set(local) & set(taken)), [], path)
            for name in names + local:
                if name not in taken:
                    self.assertFalse(hasattr(builtins, name) or keyword.iskeyword(name), (path, name))
                self.assertNotIn(name, UNUSED, path)
                self.assertRegex(name, r"^(_|_?[A-Za-z][A-Za-z0-9_]*)$", path)

    def test_only_allowed_builtins(self):
        for path, node in nodes():
            if isinstance(node, ast.Name) and isinstance(node.ctx, ast.Load):
                if hasattr(builtins, node.id):
                    self.assertIn(node.id, ALLOWED, path)

    def test_attributes_that_are_read_are_assigned(self):
        assigned, methods = set(), set()
        for _, node in nodes():
            if isinstance(node, ast.Attribute) and isinstance(node.ctx, ast.Store):
                assigned.add(node.attr)
            if isinstance(node, ast.ClassDef):
                methods |= {inner.name for inner in node.body if isinstance(inner, ast.FunctionDef)}
        for path, node in nodes():
            if isinstance(node, ast.Attribute) and isinstance(node.ctx, ast.Load):
                self.assertIn(node.attr, assigned | methods | METHODS, path)

    def test_module_level_holds_definitions_and_plain_values(self):
        for path, tree in TREES.items():
            for number, node in enumerate(tree.body):
                if isinstance(node, ast.Expr):
                    self.assertTrue(number == 0 and isinstance(node.value, ast.Constant), path)
                else:
                    kinds = (ast.ImportFrom, ast.FunctionDef, ast.ClassDef, ast.Assign)
                    self.assertIsInstance(node, kinds, path)

    def test_names_that_patterns_capture(self):
        for path, node in nodes():
            if not isinstance(node, ast.FunctionDef):
                continue
            captured = {inner.name for inner in ast.walk(node) if isinstance(inner, ast.MatchAs) and inner.name}
            others = {inner.arg for inner in ast.walk(node) if isinstance(inner, ast.arg)}
            others |= {inner.id for inner in ast.walk(node)
                       if isinstance(inner, ast.Name) and isinstance(inner.ctx, ast.Store)}
            self.assertEqual(sorted(captured & others), [], (path, node.name))
            self.assertEqual([name for name in captured if hasattr(builtins, name) or name in UNUSED], [], path)

    def test_no_word_of_other_libraries(self):
        words = r"\btype\b typing_extensions Enum Flag Generic Protocol ABC namedtuple NamedTuple dataclass contextmanager _wall"
        for path in FILES:
            for word in words.split():
                self.assertIsNone(re.search(word, path.read_text()), (path, word))


if __name__ == "__main__":
    unittest.main()
