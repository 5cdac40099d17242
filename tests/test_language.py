"""What can be seen of the rules of LANGUAGE.md in the files of the package."""

import ast
import re
import unittest
from pathlib import Path

PACKAGE = Path(__file__).resolve().parent.parent / "sameclock"
BUILTINS = set("""len range enumerate zip min max sum abs sorted reversed int str bool list tuple dict set frozenset
    isinstance ord repr any all divmod map super Exception ValueError TypeError KeyError IndexError
    LookupError""".split())
METHODS = set("""append clear copy count endswith extend find get index insert isalnum isalpha isdigit islower isspace
    isupper items join keys ljust lower lstrip partition pop remove replace reverse rfind rjust rpartition rsplit
    rstrip setdefault split splitlines startswith strip update upper values zfill bit_length""".split())
BARRED_WORDS = set("""type typing typing_extensions enum Enum IntEnum StrEnum Flag IntFlag Generic Protocol ABC ABCMeta
    namedtuple NamedTuple TypedDict TYPE_CHECKING abstractmethod _wall _WallAttr""".split())
BARRED_NAMES = set("""register mro elements open input law version_info with_traceback add_note attrgetter breakpoint
    builtins compile copyright credits delattr dir eval exec exit gc getattr globals hasattr help id importlib license
    locals methodcaller os quit setattr sys type vars""".split())
STATEMENTS = (ast.Assign, ast.AugAssign, ast.If, ast.While, ast.For, ast.Return, ast.Break, ast.Continue, ast.Pass,
              ast.Raise, ast.Assert, ast.Delete, ast.Try, ast.Expr, ast.FunctionDef, ast.ClassDef, ast.ImportFrom)


def parents(tree):
    found = {}
    for node in ast.walk(tree):
        for child in ast.iter_child_nodes(node):
            found[child] = node
    return found


class TestLanguage(unittest.TestCase):
    def setUp(self):
        self.files = sorted(PACKAGE.glob("*.py"))
        self.texts = {path: path.read_text(encoding="ascii") for path in self.files}
        self.trees = {path: ast.parse(self.texts[path]) for path in self.files}
        self.own_methods = set()
        for tree in self.trees.values():
            for node in ast.walk(tree):
                if isinstance(node, ast.ClassDef):
                    self.own_methods.update(row.name for row in node.body if isinstance(row, ast.FunctionDef))

    def test_files(self):
        for path in PACKAGE.iterdir():
            if path.name != "__pycache__":
                self.assertRegex(path.name, r"^[a-z_0-9]+\.py$")
        self.assertIn("__init__.py", [path.name for path in self.files])
        self.assertNotIn("__main__.py", [path.name for path in self.files])
        for path, text in self.texts.items():
            self.assertLessEqual(text.count("\n"), 399, path)
            self.assertNotIn("\r", text)
            for row in text.split("\n"):
                self.assertLessEqual(len(row), 120, path)
                self.assertNotIn("\t", row)

    def test_sizes(self):
        for path, tree in self.trees.items():
            for node in ast.walk(tree):
                if isinstance(node, ast.FunctionDef):
                    self.assertLessEqual(node.end_lineno - node.lineno + 1, 40, (path, node.name))
                    self.assertEqual(node.decorator_list, [])
                    self.assertIsNotNone(re.match(r"^(_?[a-zA-Z][a-zA-Z0-9_]*|__init__)$", node.name), node.name)

    def test_imports(self):
        known = {}
        for path, tree in self.trees.items():
            known[path.stem] = {node.name for node in tree.body if isinstance(node, (ast.FunctionDef, ast.ClassDef))}
            for node in tree.body:
                if isinstance(node, ast.Assign):
                    known[path.stem].update(target.id for target in node.targets)
        uses = {}
        for path, tree in self.trees.items():
            uses[path.stem] = []
            for node in ast.walk(tree):
                self.assertNotIsInstance(node, ast.Import)
                if isinstance(node, ast.ImportFrom):
                    self.assertEqual(node.level, 0)
                    self.assertIn(node, tree.body)
                    if node.module == "heapq":
                        self.assertLessEqual({alias.name for alias in node.names}, {"heappush", "heappop", "heapify"})
                        continue
                    package, _, name = node.module.partition(".")
                    self.assertEqual(package, "sameclock")
                    uses[path.stem].append(name)
                    for alias in node.names:
                        self.assertIsNone(alias.asname)
                        self.assertIn(alias.name, known[name])
                        self.assertIsNotNone(re.search(rf"\b{alias.name}\b", self.texts[path].split("import", 1)[1]
                                                       .replace("import " + alias.name, "")), alias.name)
        done = set()
        while len(done) < len(uses):
            ready = [name for name in uses if name not in done and all(other in done for other in uses[name])]
            self.assertNotEqual(ready, [], "two files import from each other")
            done.update(ready)

    def test_module_level(self):
        for path, tree in self.trees.items():
            names = []
            for node in tree.body:
                self.assertIsInstance(node, (ast.ImportFrom, ast.FunctionDef, ast.ClassDef, ast.Assign, ast.Expr))
                if isinstance(node, ast.Expr):
                    self.assertIs(node, tree.body[0])
                    self.assertIsInstance(node.value, ast.Constant)
                if isinstance(node, ast.Assign):
                    self.assertEqual(len(node.targets), 1)
                    self.assertIsInstance(node.targets[0], ast.Name)
                    names.append(node.targets[0].id)
                    for part in ast.walk(node.value):
                        self.assertIsInstance(part, (ast.Constant, ast.Tuple, ast.Dict, ast.Name, ast.Load, ast.UnaryOp,
                                                     ast.USub), path)
                if isinstance(node, (ast.FunctionDef, ast.ClassDef)):
                    names.append(node.name)
                if isinstance(node, ast.ImportFrom):
                    names.extend(alias.name for alias in node.names)
            self.assertEqual(len(names), len(set(names)), path)

    def test_statements_and_words(self):
        for path, tree in self.trees.items():
            words = set()
            for node in ast.walk(tree):
                if isinstance(node, ast.stmt):
                    self.assertIsInstance(node, STATEMENTS, (path, node.lineno))
                self.assertNotIsInstance(node, (ast.Lambda, ast.GeneratorExp, ast.Await, ast.Starred))
                if isinstance(node, ast.Constant):
                    self.assertNotIsInstance(node.value, (float, complex, bytes))
                    if isinstance(node.value, str):
                        self.assertNotIn("%", node.value)
                if isinstance(node, ast.BinOp):
                    self.assertNotIsInstance(node.op, (ast.Div, ast.MatMult))
                if isinstance(node, ast.Name):
                    words.add(node.id)
                    if isinstance(node.ctx, ast.Store):
                        self.assertNotIn(node.id, BUILTINS)
                if isinstance(node, ast.arg):
                    words.add(node.arg)
                    self.assertNotIn(node.arg, BUILTINS)
                if isinstance(node, ast.Attribute):
                    words.add(node.attr)
                if isinstance(node, (ast.FunctionDef, ast.ClassDef)):
                    words.add(node.name)
            self.assertEqual(words & (BARRED_WORDS | BARRED_NAMES), set(), path)

    def test_builtins(self):
        import builtins
        for path, tree in self.trees.items():
            for node in ast.walk(tree):
                if isinstance(node, ast.Name) and hasattr(builtins, node.id):
                    self.assertIn(node.id, BUILTINS, (path, node.lineno))

    def test_methods(self):
        for path, tree in self.trees.items():
            up = parents(tree)
            for node in ast.walk(tree):
                if isinstance(node, ast.Attribute) and isinstance(up[node], ast.Call) and up[node].func is node:
                    allowed = self.own_methods | METHODS | {"__init__"}
                    self.assertIn(node.attr, allowed, (path, node.lineno))
                elif isinstance(node, ast.Attribute):
                    self.assertNotIn(node.attr, METHODS, (path, node.lineno))

    def test_sets_are_not_made(self):
        for path, tree in self.trees.items():
            for node in ast.walk(tree):
                self.assertNotIsInstance(node, (ast.Set, ast.SetComp), path)
                if isinstance(node, ast.Name):
                    self.assertNotIn(node.id, ("set", "frozenset"), path)

    def test_names_of_imports_are_not_given_again(self):
        for path, tree in self.trees.items():
            taken = {node.name for node in tree.body if isinstance(node, ast.ClassDef)}
            for node in tree.body:
                if isinstance(node, ast.ImportFrom):
                    taken.update(alias.name for alias in node.names)
            for node in ast.walk(tree):
                if isinstance(node, ast.Name) and isinstance(node.ctx, ast.Store):
                    self.assertNotIn(node.id, taken, (path, node.lineno))
                if isinstance(node, ast.arg):
                    self.assertNotIn(node.arg, taken, (path, node.lineno))

    def test_methods_and_attributes_are_apart(self):
        for path, tree in self.trees.items():
            for node in ast.walk(tree):
                if isinstance(node, ast.ClassDef):
                    methods = [row.name for row in node.body if isinstance(row, ast.FunctionDef)]
                    self.assertEqual(len(methods), len(set(methods)))
                    for part in ast.walk(node):
                        if isinstance(part, ast.Attribute) and isinstance(part.ctx, ast.Store):
                            self.assertNotIn(part.attr, methods, (path, part.lineno))


if __name__ == "__main__":
    unittest.main()
