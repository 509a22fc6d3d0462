"""The form of the package: what can be seen of ../shared/LANGUAGE.md by reading its files."""

import ast
import builtins
import re
import unittest
from pathlib import Path

PACKAGE = Path(__file__).resolve().parent.parent / "endsum"
FILES = sorted(PACKAGE.glob("*.py"))

INTERFACE = {
    "errors": ["EndError", "NoStock", "NoDrawing", "NoRenaming", "NoMatch", "TooMany", "NoPairing",
               "NoJoin", "NoName", "NoLeg", "NoCounts", "NoWeights", "NoColours", "NoNumbers",
               "NoText", "NoRow", "NotThere"],
    "stocks": ["Stock"],
    "drawings": ["Drawing", "renamed", "beside"],
    "likeness": ["alike", "least", "keepers", "turns"],
    "pairings": ["count", "pairings", "drawing_of", "group"],
    "lists": ["drawings", "sum_all"],
    "parts": ["parts", "is_whole", "cuts", "is_free", "pieces", "cut", "join_legs"],
    "series": ["all_sums", "whole_sums", "free_sums"],
    "values": ["Weights", "value"],
    "trees": ["tree_count", "rings", "tree_sum"],
    "texts": ["show_stock", "show_drawing", "read_stock", "read_drawing"],
    "desk": ["Desk"],
}
LIBRARY = {
    "math": ["gcd", "lcm", "isqrt", "comb", "perm", "factorial"],
    "itertools": ["product", "combinations", "permutations"],
}
BUILTINS = set("""len range enumerate zip min max sum abs sorted reversed int str bool list tuple
    dict set isinstance ord repr any all divmod map iter next super ValueError KeyError""".split())
METHODS = set("""append clear copy count endswith extend find get index insert isalnum isalpha
    isdigit islower isspace isupper items join keys ljust lower lstrip partition pop remove replace
    reverse rfind rjust rpartition rsplit rstrip setdefault split splitlines startswith strip
    update upper values zfill bit_length add discard""".split())
SPECIAL = {"__init__", "__eq__"}
BARRED = (ast.Global, ast.AsyncFunctionDef, ast.AsyncFor, ast.AsyncWith, ast.Await, ast.Div,
          ast.GeneratorExp, ast.TryStar)
TOP = (ast.FunctionDef, ast.ClassDef, ast.ImportFrom, ast.Assign)
WORDS = re.compile(r"\b(type|typing|enum|Enum|Generic|Protocol|ABC|namedtuple|register|mro|elements"
                   r"|open|input|law|eval|exec|globals|locals|vars|id|hash|print)\b|dataclass|_wall")


def trees():
    """The name and the tree of each file."""
    return [(path.stem, ast.parse(path.read_text(encoding="utf-8"))) for path in FILES]


def nodes():
    """Each node of each file, with a text that tells where it is."""
    for name, tree in trees():
        for node in ast.walk(tree):
            yield f"{name}.py:{getattr(node, 'lineno', 0)}", node


def bound_names(node):
    """The names that a node gives a meaning."""
    if isinstance(node, (ast.FunctionDef, ast.ClassDef)):
        return [node.name]
    if isinstance(node, ast.arg):
        return [node.arg]
    if isinstance(node, ast.Name) and isinstance(node.ctx, ast.Store):
        return [node.id]
    return []


def is_set(node):
    """Whether a node makes a set."""
    if isinstance(node, ast.Call) and isinstance(node.func, ast.Name):
        return node.func.id == "set"
    return isinstance(node, (ast.Set, ast.SetComp))


class Files(unittest.TestCase):
    def test_the_folder_holds_plain_files_only(self):
        for path in PACKAGE.iterdir():
            if path.name != "__pycache__":
                self.assertRegex(path.name, r"^([a-z][a-z0-9_]*|__init__)\.py$")

    def test_signs_and_sizes(self):
        for path in FILES:
            text = path.read_text(encoding="utf-8")
            self.assertRegex(text, r"\A[ -~\n]*\Z", path.name)
            rows = text.splitlines()
            self.assertLessEqual(len(rows), 399, path.name)
            self.assertLessEqual(max([len(row) for row in rows]), 120, path.name)

    def test_functions_are_short(self):
        for where, node in nodes():
            if isinstance(node, ast.FunctionDef):
                self.assertLessEqual(node.end_lineno - node.lineno + 1, 40, where)


class Interface(unittest.TestCase):
    def test_names_are_defined_in_their_files(self):
        defined = {name: [node.name for node in tree.body
                          if isinstance(node, (ast.FunctionDef, ast.ClassDef))]
                   for name, tree in trees()}
        for name, wanted in INTERFACE.items():
            for one in wanted:
                self.assertIn(one, defined[name])

    def test_imports_name_the_file_that_defines(self):
        defined = {name: {one for node in tree.body for one in bound_names(node)}
                   | {target.id for node in tree.body if isinstance(node, ast.Assign)
                      for target in node.targets} for name, tree in trees()}
        for where, node in nodes():
            self.assertNotIsInstance(node, ast.Import, where)
            if isinstance(node, ast.ImportFrom):
                folder, _, name = node.module.partition(".")
                self.assertTrue(folder == "endsum" or node.module in LIBRARY, where)
                self.assertEqual(node.level, 0, where)
                for alias in node.names:
                    self.assertIn(alias.name, LIBRARY.get(node.module) or defined[name], where)
                    self.assertIsNone(alias.asname, where)

    def test_no_file_leads_back_to_itself(self):
        needs = {name: [node.module.partition(".")[2] for node in tree.body
                        if isinstance(node, ast.ImportFrom) and node.module not in LIBRARY]
                 for name, tree in trees()}
        while needs:
            free = [name for name in needs if not needs[name]]
            self.assertTrue(free, needs)
            needs = {name: [other for other in needs[name] if other not in free]
                     for name in needs if name not in free}

    def test_library_functions_are_only_called(self):
        for name, tree in trees():
            words = [alias.name for node in tree.body if isinstance(node, ast.ImportFrom)
                     and node.module in LIBRARY for alias in node.names]
            called = [node.func for node in ast.walk(tree) if isinstance(node, ast.Call)]
            for node in ast.walk(tree):
                if isinstance(node, ast.Name) and node.id in words:
                    self.assertIn(node, called, f"{name}.py:{node.lineno}")

    def test_names_of_classes_and_imports_mean_nothing_else(self):
        for name, tree in trees():
            words = [alias.name for node in tree.body if isinstance(node, ast.ImportFrom)
                     for alias in node.names]
            words += [node.name for node in tree.body if isinstance(node, ast.ClassDef)]
            for node in ast.walk(tree):
                if not isinstance(node, ast.ClassDef):
                    for one in bound_names(node):
                        self.assertNotIn(one, words, f"{name}.py:{node.lineno}")


class Words(unittest.TestCase):
    def test_statements(self):
        for name, tree in trees():
            self.assertIsNotNone(ast.get_docstring(tree), name)
            for node in tree.body[1:]:
                self.assertIsInstance(node, TOP, f"{name}.py:{node.lineno}")
        for where, node in nodes():
            self.assertNotIsInstance(node, BARRED, where)
            if isinstance(node, ast.FunctionDef):
                self.assertEqual(node.decorator_list, [], where)
            if isinstance(node, ast.FunctionDef) and node.name.startswith("__"):
                self.assertIn(node.name, SPECIAL, where)

    def test_literals(self):
        for where, node in nodes():
            if isinstance(node, ast.Constant):
                self.assertNotIsInstance(node.value, (float, complex, bytes), where)
                self.assertFalse(isinstance(node.value, str) and "%" in node.value, where)
            if isinstance(node, ast.BinOp) and isinstance(node.op, ast.Pow):
                self.assertIsInstance(node.right, ast.Constant, where)

    def test_builtins(self):
        for where, node in nodes():
            for name in bound_names(node):
                self.assertNotIn(name, vars(builtins), where)
            if isinstance(node, ast.Name) and node.id in vars(builtins):
                self.assertIn(node.id, BUILTINS, where)

    def test_methods(self):
        own = {part.name for _, tree in trees() for node in tree.body
               if isinstance(node, ast.ClassDef) for part in node.body
               if isinstance(part, ast.FunctionDef)}
        for where, node in nodes():
            if isinstance(node, ast.Call) and isinstance(node.func, ast.Attribute):
                self.assertIn(node.func.attr, METHODS | own, where)

    def test_sets_are_sorted_measured_or_asked(self):
        for name, tree in trees():
            for task in ast.walk(tree):
                if isinstance(task, ast.FunctionDef):
                    self.check_sets(name, task)

    def check_sets(self, name, task):
        """Each set of a function is sorted or measured at once, or stored and then asked or added to."""
        fine, stored, asked = [], [], []
        for node in ast.walk(task):
            if isinstance(node, ast.Call) and isinstance(node.func, ast.Name):
                fine += node.args[:1] if node.func.id in ("sorted", "len") else []
            if isinstance(node, ast.Assign) and is_set(node.value):
                fine.append(node.value)
                stored += [target.id for target in node.targets]
            if isinstance(node, ast.Compare) and isinstance(node.ops[0], (ast.In, ast.NotIn)):
                asked.append(node.comparators[0])
            if isinstance(node, ast.Expr) and isinstance(node.value, ast.Call):
                if isinstance(node.value.func, ast.Attribute) and node.value.func.attr == "add":
                    asked.append(node.value.func.value)
        for node in ast.walk(task):
            if is_set(node):
                self.assertIn(node, fine, f"{name}.py:{node.lineno}")
            if isinstance(node, ast.Name) and node.id in stored and isinstance(node.ctx, ast.Load):
                self.assertIn(node, asked, f"{name}.py:{node.lineno}")
        self.assertEqual(len(stored), len(set(stored)), f"{name}.py:{task.lineno}")

    def test_words_that_are_barred(self):
        for where, node in nodes():
            names = bound_names(node)
            if isinstance(node, ast.Attribute):
                names = [node.attr]
            if isinstance(node, ast.Constant) and isinstance(node.value, str):
                names = [] if "\n" in node.value or " " in node.value else [node.value]
            for name in names:
                self.assertIsNone(WORDS.search(name), f"{where} {name}")


if __name__ == "__main__":
    unittest.main()
