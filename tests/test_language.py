"""The rules of the language that can be looked up in the code itself; not all of them can."""

import ast
import builtins
import unittest
from pathlib import Path

ROOT = Path(__file__).resolve().parent.parent
PACKAGE = ROOT / "bandrims"
LIBRARY = {"heapq": {"heappush", "heappop", "heapify", "heapreplace", "heappushpop"},
           "math": {"gcd", "lcm", "isqrt", "comb", "perm", "factorial"},
           "itertools": {"product", "combinations", "permutations", "chain", "accumulate", "pairwise", "islice",
                         "zip_longest"},
           "collections": {"defaultdict", "deque"}, "__future__": {"annotations"}}
BUILTINS = set("""len range enumerate zip min max sum abs sorted reversed int str bool bytes list tuple dict set isinstance
    ord repr any all divmod pow getattr hasattr setattr iter next map type super property staticmethod classmethod Exception
    ValueError TypeError KeyError IndexError LookupError ZeroDivisionError ArithmeticError OverflowError RuntimeError
    NotImplementedError StopIteration NotImplemented""".split())
METHODS = set("""append clear copy count endswith extend find get index insert isalnum isalpha isdigit islower isspace isupper
    items join keys ljust lower lstrip partition pop remove replace reverse rfind rjust rpartition rsplit rstrip setdefault
    split splitlines startswith strip update upper values zfill bit_length title capitalize swapcase casefold center
    expandtabs removeprefix removesuffix rindex isascii isdecimal isnumeric istitle isidentifier isprintable""".split())
DOUBLE = set("__init__ __eq__ __repr__ __str__ __len__ __enter__ __exit__ __call__ __iter__ __bool__ __contains__".split())
BARRED = set("""register mro elements open input law version_info with_traceback add_note type typing enum Enum Flag Generic
    Protocol ABC namedtuple abstractmethod global eval exec _wall""".split())
STATEMENTS = (ast.Assign, ast.AugAssign, ast.AnnAssign, ast.If, ast.While, ast.For, ast.Return, ast.Break, ast.Continue,
              ast.Pass, ast.Raise, ast.Assert, ast.Delete, ast.Nonlocal, ast.Match, ast.With, ast.Try, ast.Expr,
              ast.FunctionDef, ast.ClassDef, ast.ImportFrom)
TAKES_LIST = {"any", "all", "min", "max", "sum", "sorted"}


def files():
    """The files of the package."""
    return sorted(PACKAGE.rglob("*.py"))


def names_of(tree):
    """All names that a file binds in any way."""
    found = [node.id for node in ast.walk(tree) if isinstance(node, ast.Name) and not isinstance(node.ctx, ast.Load)]
    for node in ast.walk(tree):
        if isinstance(node, ast.arg):
            found.append(node.arg)
        if isinstance(node, (ast.FunctionDef, ast.ClassDef)):
            found.append(node.name)
    return found


class Language(unittest.TestCase):
    def each_node(self, kinds):
        """All nodes of these kinds, each with its file and line."""
        for path in files():
            for node in ast.walk(ast.parse(path.read_text())):
                if isinstance(node, kinds):
                    yield node, f"{path.relative_to(ROOT)}:{getattr(node, 'lineno', 0)}"

    def test_files(self):
        folders = [PACKAGE] + [path for path in PACKAGE.rglob("*") if path.is_dir() and path.name != "__pycache__"]
        for folder in folders:
            self.assertTrue((folder / "__init__.py").exists(), folder)
        for path in PACKAGE.rglob("*"):
            if "__pycache__" not in path.parts and path.is_file():
                self.assertRegex(path.name, r"\A[a-z_][a-z0-9_]*\.py\Z")
        for path in files():
            text = path.read_bytes()
            self.assertTrue(all([32 <= code <= 126 or code == 10 for code in text]), path)
            lines = text.decode("ascii").split("\n")
            self.assertLessEqual(len(lines), 400, path)
            self.assertLessEqual(max(map(len, lines)), 120, path)

    def test_functions(self):
        for node, spot in self.each_node(ast.FunctionDef):
            self.assertLessEqual(node.end_lineno - node.lineno + 1, 40, spot)
            if node.name.startswith("__"):
                self.assertIn(node.name, DOUBLE, spot)
            for one in node.decorator_list:
                self.assertIn(ast.unparse(one).split(".")[-1], ("property", "setter", "classmethod", "staticmethod"), spot)

    def test_statements(self):
        for node, spot in self.each_node(ast.stmt):
            self.assertIsInstance(node, STATEMENTS, spot)
        for node, spot in self.each_node((ast.Set, ast.SetComp)):
            self.fail(f"a set at {spot}")

    def test_imports(self):
        for node, spot in self.each_node(ast.ImportFrom):
            self.assertEqual(node.level, 0, spot)
            self.assertTrue(all([one.asname is None for one in node.names]), spot)
            if node.module in LIBRARY:
                self.assertLessEqual({one.name for one in node.names}, LIBRARY[node.module], spot)
            else:
                told = ast.parse((ROOT / (node.module.replace(".", "/") + ".py")).read_text())
                self.assertLessEqual({one.name for one in node.names}, set(names_of(told)), spot)

    def test_no_import_in_a_ring(self):
        told = {}
        for path in files():
            tree = ast.parse(path.read_text())
            name = ".".join(path.relative_to(ROOT).with_suffix("").parts)
            told[name] = [node.module for node in ast.walk(tree) if isinstance(node, ast.ImportFrom)]
        left = dict(told)
        while left:
            free = [name for name, needs in left.items() if not any([need in left for need in needs])]
            self.assertTrue(free, left)
            left = {name: needs for name, needs in left.items() if name not in free}

    def test_names(self):
        for path in files():
            tree = ast.parse(path.read_text())
            bound = names_of(tree)
            shared = [name for name in bound if name in dir(builtins) and not name.startswith("__")]
            self.assertEqual(shared, [], path)
            self.assertEqual(sorted(BARRED.intersection(bound)), [], path)
            imported = [one.name for node in ast.walk(tree) if isinstance(node, ast.ImportFrom) for one in node.names]
            self.assertEqual(sorted(set(imported).intersection(bound)), [], path)
            used = {node.id for node in ast.walk(tree) if isinstance(node, ast.Name)}
            self.assertEqual(sorted(set(imported) - used), [], path)
            loose = [name for name in used if name in dir(builtins) and name not in BUILTINS]
            self.assertEqual(loose, [], path)

    def test_methods(self):
        own = set()
        for node, _ in self.each_node(ast.FunctionDef):
            own.add(node.name)
        for node, spot in self.each_node(ast.Call):
            if isinstance(node.func, ast.Attribute):
                self.assertTrue(node.func.attr in own or node.func.attr in METHODS, f"{spot} {node.func.attr}")

    def test_expressions(self):
        for node, spot in self.each_node(ast.expr):
            self.assertNotIsInstance(node, ast.Await, spot)
            if isinstance(node, ast.JoinedStr):
                self.assertEqual(node.lineno, node.end_lineno, spot)
            if isinstance(node, ast.BinOp):
                self.assertNotIsInstance(node.op, ast.Div, spot)
                if isinstance(node.op, ast.Pow):
                    self.assertIn(node.right.value, range(65), spot)
            if isinstance(node, ast.Call) and isinstance(node.func, ast.Name) and node.func.id in TAKES_LIST:
                self.assertFalse(any([isinstance(arg, ast.GeneratorExp) for arg in node.args]), spot)

    def test_classes(self):
        for node, spot in self.each_node(ast.ClassDef):
            self.assertTrue(node.name[0].isalpha(), spot)

    def test_stars(self):
        for node, spot in self.each_node(ast.Call):
            for one in node.args:
                if isinstance(one, ast.Starred):
                    self.assertIsInstance(one.value, (ast.Name, ast.Attribute, ast.List, ast.Tuple), spot)
            if isinstance(node.func, ast.Name):
                # A later stage has objects that are iterated over and have a length: there these must not stand.
                self.assertNotIn(node.func.id, ("product", "combinations", "permutations"), spot)

    def test_errors_are_made_where_they_are_raised(self):
        for node, spot in self.each_node(ast.Raise):
            self.assertIsInstance(node.exc, ast.Call, spot)
            self.assertRegex(node.exc.func.id, "Error|Invalid|Refused|TooMany|UnknownName|NothingToUndo", spot)

    def test_generators_are_iterated_at_once(self):
        told = {"each_full", "solutions", "pairings", "fillings", "all_pairings", "gluing_pairings"}
        yielding = set()
        for node, spot in self.each_node(ast.FunctionDef):
            if any([isinstance(one, (ast.Yield, ast.YieldFrom)) for one in ast.walk(node)]):
                yielding.add(node.name)
        self.assertEqual(yielding, told)
        for path in files():
            tree = ast.parse(path.read_text())
            loops = [node.iter for node in ast.walk(tree) if isinstance(node, ast.For)]
            for node in ast.walk(tree):
                if isinstance(node, ast.Name) and node.id in told:
                    calls = [loop for loop in loops if isinstance(loop, ast.Call) and loop.func is node]
                    self.assertEqual(len(calls), 1, f"{path} {node.lineno}")
                    self.assertTrue(all([isinstance(arg, ast.Name) for arg in calls[0].args]))

    def test_strings(self):
        for node, spot in self.each_node(ast.Constant):
            self.assertNotIsInstance(node.value, (float, complex, bytes), spot)
        for path in files():
            tree = ast.parse(path.read_text())
            for node in ast.walk(tree):
                if isinstance(node, (ast.Module, ast.FunctionDef, ast.ClassDef)) and ast.get_docstring(node):
                    node.body = node.body[1:] or [ast.Pass()]
            told = [node.value for node in ast.walk(tree) if isinstance(node, ast.Constant) and isinstance(node.value, str)]
            self.assertEqual([text for text in told if "%" in text or "type" in text], [], path)

    def test_functions_are_told(self):
        for node, spot in self.each_node((ast.FunctionDef, ast.ClassDef)):
            if not node.name.startswith("__"):
                self.assertIsNotNone(ast.get_docstring(node), spot)

    def test_no_errors_of_python_are_caught(self):
        for node, spot in self.each_node(ast.ExceptHandler):
            self.assertIsNotNone(node.type, spot)
            self.assertNotIn(ast.unparse(node.type), dir(builtins), spot)
