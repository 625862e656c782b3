"""Those rules of the program's language that its files can be asked for by a few lines."""

import ast
import builtins
import pathlib
import re
import unittest

FOLDER = pathlib.Path(__file__).parent.parent / "lateplans"
FILES = sorted(FOLDER.glob("*.py"))
LIBRARY = {
    "heapq": "heappush heappop heapify heapreplace heappushpop", "math": "gcd lcm isqrt comb perm factorial",
    "itertools": "product combinations permutations chain accumulate pairwise islice zip_longest",
    "collections": "defaultdict deque",
}
BUILTINS = set(
    "len range enumerate zip min max sum abs sorted reversed int str bool bytes list tuple dict set frozenset "
    "isinstance ord repr any all divmod pow iter next map Exception ValueError TypeError KeyError IndexError "
    "LookupError ZeroDivisionError ArithmeticError OverflowError RuntimeError NotImplementedError AttributeError "
    "StopIteration NotImplemented property staticmethod classmethod super True False None".split()
)
METHODS = set(
    "append clear copy count endswith extend find get index insert isalnum isalpha isdigit islower isspace isupper "
    "items join keys ljust lower lstrip partition pop remove replace reverse rfind rjust rpartition rsplit rstrip "
    "setdefault split splitlines startswith strip update upper values zfill bit_length".split()
)
BARRED = set(
    "register mro elements open input law version_info with_traceback add_note attrgetter breakpoint builtins compile "
    "copyright credits delattr dir eval exec exit gc globals help id importlib license locals methodcaller os quit "
    "vars typing enum Enum dataclass namedtuple Generic Protocol ABC sys _cold _outside _record".split()
)
BARRED_NODES = (
    ast.GeneratorExp, ast.AsyncFunctionDef, ast.AsyncFor, ast.AsyncWith, ast.Await, ast.Div, ast.MatMult, ast.Import,
)


def tree(file):
    return ast.parse(file.read_text())


def nodes(*kinds):
    """The pairs of a file and a node of these kinds in it."""
    return [(file, node) for file in FILES for node in ast.walk(tree(file)) if isinstance(node, kinds)]


def bound(node):
    """The names that a function binds: its parameters and its local variables."""
    names = [arg.arg for arg in ast.walk(node.args) if isinstance(arg, ast.arg)]
    for inner in ast.walk(node):
        if isinstance(inner, ast.Name) and isinstance(inner.ctx, ast.Store):
            names.append(inner.id)
    return names


class Language(unittest.TestCase):
    def test_files(self):
        inside = [path for path in FOLDER.iterdir() if path.name != "__pycache__"]
        self.assertEqual(sorted(inside), FILES)
        for file in FILES:
            self.assertRegex(file.name, "^[a-z_]+[.]py$")
            text = file.read_text(encoding="ascii")
            self.assertLessEqual(len(text.splitlines()), 399, file)
            self.assertIsNone(re.search("[^ -~\n]", text), file)
            self.assertLessEqual(max(len(line) for line in text.split("\n")), 120, file)

    def test_functions(self):
        for file, node in nodes(ast.FunctionDef):
            first = min([node.lineno] + [line.lineno for line in node.decorator_list])
            self.assertLessEqual(node.end_lineno - first + 1, 40, (file, node.name))
            for line in node.decorator_list:
                self.assertRegex(ast.unparse(line), "^(property|staticmethod|classmethod|[a-z_]+[.]setter)$")

    def test_imports(self):
        for file, node in nodes(ast.ImportFrom):
            self.assertEqual(node.level, 0)
            for own in node.names:
                self.assertIsNone(own.asname)
                if node.module in LIBRARY:
                    self.assertIn(own.name, LIBRARY[node.module].split())
                else:
                    folder, _, word = node.module.partition(".")
                    self.assertEqual(folder, "lateplans")
                    defined = [line.name for line in tree(FOLDER / (word + ".py")).body if hasattr(line, "name")]
                    self.assertIn(own.name, defined, file)

    def test_no_files_import_one_another(self):
        needs = {file.stem: set() for file in FILES}
        for file, node in nodes(ast.ImportFrom):
            if node.module.startswith("lateplans."):
                needs[file.stem].add(node.module.partition(".")[2])
        while needs:
            free = [word for word in needs if not needs[word] & set(needs)]
            self.assertTrue(free, needs)
            for word in free:
                del needs[word]

    def test_nodes(self):
        self.assertEqual(nodes(*BARRED_NODES), [])
        for file, node in nodes(ast.Constant):
            self.assertNotIsInstance(node.value, (float, complex))
            if isinstance(node.value, str):
                self.assertNotIn("%", node.value, file)

    def test_names(self):
        known = {name for name in dir(builtins)}
        for file, node in nodes(ast.Name):
            if node.id in known:
                self.assertIn(node.id, BUILTINS, (file, node.lineno))
                self.assertIsInstance(node.ctx, ast.Load, (file, node.lineno))
            self.assertNotIn(node.id, BARRED, (file, node.lineno))
            self.assertFalse(node.id.startswith("__"), (file, node.lineno))
        for file, node in nodes(ast.FunctionDef):
            outer = {own.asname or own.name for line in tree(file).body if isinstance(line, ast.ImportFrom)
                     for own in line.names} | {line.name for line in tree(file).body if isinstance(line, ast.ClassDef)}
            for name in bound(node):
                self.assertNotIn(name, known | outer | BARRED, (file, node.name))
            self.assertNotIn(node.name, BARRED)

    def test_methods(self):
        own = {node.name for _, node in nodes(ast.FunctionDef)}
        for file, node in nodes(ast.Call):
            if isinstance(node.func, ast.Attribute):
                self.assertIn(node.func.attr, METHODS | own, (file, node.lineno))
                # Classes of the package have methods that sets have, so no set is changed by one.
                self.assertNotIn(node.func.attr, {"sort", "add", "discard"}, (file, node.lineno))
            elif isinstance(node.func, ast.Name) and node.func.id == "reversed":
                self.assertRegex(ast.unparse(node.args[0]), "^(list|tuple|sorted|range)[(]", (file, node.lineno))
        for file, node in nodes(ast.Attribute):
            self.assertNotIn(node.attr, BARRED | {"format", "args"}, (file, node.lineno))

    def test_classes(self):
        for file, node in nodes(ast.ClassDef):
            methods = [line.name for line in node.body if isinstance(line, ast.FunctionDef)]
            self.assertEqual(len(methods), len(set(methods)), (file, node.name))
            self.assertEqual("__getitem__" in methods, "__iter__" in methods, (file, node.name))
            stored = {inner.attr for inner in ast.walk(node)
                      if isinstance(inner, ast.Attribute) and isinstance(inner.ctx, ast.Store)}
            self.assertEqual(stored & set(methods), set(), (file, node.name))
            self.assertNotIn("keys", methods)

    def test_operators_and_properties_change_nothing(self):
        for file, node in nodes(ast.FunctionDef):
            kept = any(isinstance(line, ast.If) and ast.unparse(line.test).endswith(" is None") for line in node.body)
            if (node.name.startswith("__") and node.name != "__init__") or node.decorator_list and not kept:
                for inner in ast.walk(node):
                    self.assertFalse(isinstance(inner, ast.Attribute) and isinstance(inner.ctx, ast.Store), node.name)

    def test_module_level(self):
        for file in FILES:
            for line in tree(file).body:
                kinds = (ast.ImportFrom, ast.FunctionDef, ast.ClassDef, ast.Assign, ast.Expr)
                self.assertIsInstance(line, kinds, (file, line.lineno))
                if isinstance(line, ast.Expr):
                    self.assertIsInstance(line.value, ast.Constant)


if __name__ == "__main__":
    unittest.main()
