"""The form of the package: what can be seen of ../shared/LANGUAGE.md by reading its files."""

import ast
import builtins
import re
import unittest
from pathlib import Path

PACKAGE = Path(__file__).resolve().parent.parent / "endsum"
FILES = sorted(PACKAGE.glob("*.py"))

INTERFACE = {
    "errors": ["EndError", "NoStock", "NoDrawing", "NoRenaming", "NoMatch", "TooMany", "NoPairing",
               "NoJoin", "NoName", "NoLeg", "NoCounts", "NoWeights", "NoColours", "NoNumbers",
               "NoText", "NoRow", "NotThere"],
    "stocks": ["Stock"],
    "drawings": ["Drawing", "renamed", "beside"],
    "likeness": ["alike", "least", "keepers", "turns"],
}
BUILTINS = set("""len range enumerate zip min max sum abs sorted reversed int str bool list tuple
    dict set isinstance ord repr any all divmod map iter next super ValueError KeyError""".split())
METHODS = set("""append clear copy count endswith extend find get index insert isalnum isalpha
    isdigit islower isspace isupper items join keys ljust lower lstrip partition pop remove replace
    reverse rfind rjust rpartition rsplit rstrip setdefault split splitlines startswith strip
    update upper values zfill bit_length add discard""".split())
SPECIAL = {"__init__", "__eq__"}
BARRED = (ast.Global, ast.AsyncFunctionDef, ast.AsyncFor, ast.AsyncWith, ast.Await, ast.Div,
          ast.GeneratorExp, ast.TryStar)
TOP = (ast.FunctionDef, ast.ClassDef, ast.ImportFrom, ast.Assign)
WORDS = re.compile(r"\b(type|typing|enum|Enum|Generic|Protocol|ABC|namedtuple|register|mro|elements"
                   r"|open|input|law|eval|exec|globals|locals|vars|id|hash|print)\b|dataclass|_wall")


def trees():
    """The name and the tree of each file."""
    return [(path.stem, ast.parse(path.read_text(encoding="utf-8"))) for path in FILES]


def nodes():
    """Each node of each file, with a text that tells where it is."""
    for name, tree in trees():
        for node in ast.walk(tree):
            yield f"{name}.py:{getattr(node, 'lineno', 0)}", node


def bound_names(node):
    """The names that a node gives a meaning."""
    if isinstance(node, (ast.FunctionDef, ast.ClassDef)):
        return [node.name]
    if isinstance(node, ast.arg):
        return [node.arg]
    if isinstance(node, ast.Name) and isinstance(node.ctx, ast.Store):
        return [node.id]
    return []


class Files(unittest.TestCase):
    def test_the_folder_holds_plain_files_only(self):
        for path in PACKAGE.iterdir():
            if path.name != "__pycache__":
                self.assertRegex(path.name, r"^([a-z][a-z0-9_]*|__init__)\.py$")

    def test_signs_and_sizes(self):
        for path in FILES:
            text = path.read_text(encoding="utf-8")
            self.assertRegex(text, r"\A[ -~\n]*\Z", path.name)
            rows = text.splitlines()
            self.assertLessEqual(len(rows), 399, path.name)
            self.assertLessEqual(max([len(row) for row in rows]), 120, path.name)

    def test_functions_are_short(self):
        for where, node in nodes():
            if isinstance(node, ast.FunctionDef):
                self.assertLessEqual(node.end_lineno - node.lineno + 1, 40, where)


class Interface(unittest.TestCase):
    def test_names_are_defined_in_their_files(self):
        defined = {name: [node.name for node in tree.body
                          if isinstance(node, (ast.FunctionDef, ast.ClassDef))]
                   for name, tree in trees()}
        for name, wanted in INTERFACE.items():
            for one in wanted:
                self.assertIn(one, defined[name])

    def test_imports_name_the_file_that_defines(self):
        defined = {name: {one for node in tree.body for one in bound_names(node)}
                   | {target.id for node in tree.body if isinstance(node, ast.Assign)
                      for target in node.targets} for name, tree in trees()}
        for where, node in nodes():
            self.assertNotIsInstance(node, ast.Import, where)
            if isinstance(node, ast.ImportFrom):
                folder, _, name = node.module.partition(".")
                self.assertEqual((folder, node.level), ("endsum", 0), where)
                for alias in node.names:
                    self.assertIn(alias.name, defined[name], where)
                    self.assertIsNone(alias.asname, where)


class Words(unittest.TestCase):
    def test_statements(self):
        for name, tree in trees():
            self.assertIsNotNone(ast.get_docstring(tree), name)
            for node in tree.body[1:]:
                self.assertIsInstance(node, TOP, f"{name}.py:{node.lineno}")
        for where, node in nodes():
            self.assertNotIsInstance(node, BARRED, where)
            if isinstance(node, ast.FunctionDef):
                self.assertEqual(node.decorator_list, [], where)
            if isinstance(node, ast.FunctionDef) and node.name.startswith("__"):
                self.assertIn(node.name, SPECIAL, where)

    def test_literals(self):
        for where, node in nodes():
            if isinstance(node, ast.Constant):
                self.assertNotIsInstance(node.value, (float, complex, bytes), where)
                self.assertFalse(isinstance(node.value, str) and "%" in node.value, where)
            if isinstance(node, ast.BinOp) and isinstance(node.op, ast.Pow):
                self.assertIsInstance(node.right, ast.Constant, where)

    def test_builtins(self):
        for where, node in nodes():
            for name in bound_names(node):
                self.assertNotIn(name, vars(builtins), where)
            if isinstance(node, ast.Name) and node.id in vars(builtins):
                self.assertIn(node.id, BUILTINS, where)

    def test_methods(self):
        own = {part.name for _, tree in trees() for node in tree.body
               if isinstance(node, ast.ClassDef) for part in node.body
               if isinstance(part, ast.FunctionDef)}
        for where, node in nodes():
            if isinstance(node, ast.Call) and isinstance(node.func, ast.Attribute):
                self.assertIn(node.func.attr, METHODS | own, where)

    def test_sets_are_only_sorted_or_measured(self):
        fine = [node.args[0] for _, node in nodes() if isinstance(node, ast.Call) and node.args
                and isinstance(node.func, ast.Name) and node.func.id in ("sorted", "len")]
        rows = [ast.dump(node, include_attributes=True) for node in fine]
        for where, node in nodes():
            named_set = (isinstance(node, ast.Call) and isinstance(node.func, ast.Name)
                         and node.func.id == "set")
            if named_set or isinstance(node, (ast.Set, ast.SetComp)):
                self.assertIn(ast.dump(node, include_attributes=True), rows, where)

    def test_words_that_are_barred(self):
        for where, node in nodes():
            names = bound_names(node)
            if isinstance(node, ast.Attribute):
                names = [node.attr]
            if isinstance(node, ast.Constant) and isinstance(node.value, str):
                names = [] if "\n" in node.value or " " in node.value else [node.value]
            for name in names:
                self.assertIsNone(WORDS.search(name), f"{where} {name}")


if __name__ == "__main__":
    unittest.main()
