"""The rules of LANGUAGE.md that a look at the tree of the code can judge."""

import ast
import builtins
import pathlib
import re
import unittest

from tests.test_purity import heap_faults, looked_at

FOLDER = pathlib.Path(__file__).resolve().parent.parent / "lonetill"
FILES = sorted(FOLDER.glob("*.py"))
LET = set("""len range enumerate zip min max sum abs sorted reversed int str bool bytes list tuple dict set frozenset
isinstance ord repr any all divmod pow Exception ValueError TypeError KeyError IndexError LookupError
ZeroDivisionError ArithmeticError OverflowError RuntimeError NotImplementedError NotImplemented property
classmethod staticmethod iter next getattr hasattr setattr map super""".split())
METHODS = set("""append clear copy count endswith extend find get index insert isalnum isalpha isdigit islower isspace
isupper items join keys ljust lower lstrip partition pop remove replace reverse rfind rjust rpartition rsplit
rstrip setdefault split splitlines startswith strip update upper values zfill bit_length add discard""".split())
DOUBLES = set("""__init__ __eq__ __repr__ __str__ __len__ __enter__ __exit__ __call__ __or__ __and__ __sub__
__contains__ __getitem__ __iter__""".split())
BARRED = set("""register mro elements open input law version_info with_traceback add_note attrgetter breakpoint
builtins compile copyright credits delattr dir eval exec exit gc globals help id importlib license locals
methodcaller os quit type vars sys""".split())
WORDS = re.compile(r"\b(type|typing|typing_extensions|enum|Enum|IntEnum|StrEnum|Flag|IntFlag|Generic|Protocol|ABC"
                   r"|ABCMeta|namedtuple|NamedTuple|TypedDict|TYPE_CHECKING|abstractmethod)\b|dataclass|overload|contextmanager")
LIBRARY = {"heapq", "math", "itertools", "collections"}


def parsed():
    """Each file with its text and its tree."""
    return [(path.name, path.read_text(), ast.parse(path.read_text())) for path in FILES]


def bound_in(function):
    """All names that a function (or lambda) binds, its parameters too."""
    names = {arg.arg for arg in function.args.posonlyargs + function.args.args + function.args.kwonlyargs}
    for node in ast.walk(function):
        if isinstance(node, ast.Name) and isinstance(node.ctx, (ast.Store, ast.Del)):
            names.add(node.id)
        if isinstance(node, (ast.FunctionDef, ast.Lambda)) and node is not function:
            names |= {arg.arg for arg in node.args.args}
    return names


def without_docstrings(tree):
    """All nodes of a tree but its docstrings."""
    told = set()
    for node in ast.walk(tree):
        if isinstance(node, (ast.Module, ast.ClassDef, ast.FunctionDef)) and ast.get_docstring(node) is not None:
            told.add(id(node.body[0].value))
    return [node for node in ast.walk(tree) if id(node) not in told]


class Language(unittest.TestCase):
    def test_files(self):
        names = {path.name for path in FOLDER.iterdir() if path.name != "__pycache__"}
        self.assertEqual(names, {path.name for path in FILES})
        self.assertIn("__init__.py", names)
        for name, text, _ in parsed():
            self.assertRegex(name, r"\A[a-z0-9_]+\.py\Z")
            self.assertLessEqual(len(text.splitlines()), 399, name)
            self.assertTrue(set(text) <= {chr(k) for k in range(32, 127)} | {"\n"}, name)
            for line in text.splitlines():
                self.assertLessEqual(len(line), 120, (name, line))

    def test_imports(self):
        for name, text, tree in parsed():
            used = {node.id for node in ast.walk(tree) if isinstance(node, ast.Name)}
            for node in ast.walk(tree):
                self.assertNotIsInstance(node, ast.Import, name)
                if isinstance(node, ast.ImportFrom):
                    self.assertIn(node, tree.body)
                    self.assertTrue(node.module.startswith("lonetill.") or node.module in LIBRARY, name)
                    for part in node.names:
                        self.assertIsNone(part.asname)
                        self.assertIn(part.name, used, (name, part.name))
                        self.check_defined(node.module, part.name)

    def check_defined(self, module, name):
        if module in LIBRARY:
            return
        tree = ast.parse((FOLDER / (module.split(".")[1] + ".py")).read_text())
        names = {node.name for node in tree.body if isinstance(node, (ast.FunctionDef, ast.ClassDef))}
        for node in tree.body:
            if isinstance(node, ast.Assign):
                names |= {target.id for target in node.targets}
        self.assertIn(name, names, module)

    def test_no_circles(self):
        needs = {}
        for name, _, tree in parsed():
            needs[name[:-3]] = {node.module.split(".")[1] for node in ast.walk(tree)
                                if isinstance(node, ast.ImportFrom) and node.module.startswith("lonetill.")}
        while needs:
            free = [name for name, others in needs.items() if not others & set(needs)]
            self.assertTrue(free, needs)
            needs = {name: others for name, others in needs.items() if name not in free}

    def test_module_level(self):
        for name, _, tree in parsed():
            bound = []
            for node in tree.body:
                self.assertIsInstance(node, (ast.Expr, ast.ImportFrom, ast.FunctionDef, ast.ClassDef, ast.Assign), name)
                if isinstance(node, (ast.FunctionDef, ast.ClassDef)):
                    bound.append(node.name)
                if isinstance(node, ast.ImportFrom):
                    bound += [part.name for part in node.names]
                if isinstance(node, ast.Assign):
                    self.assertEqual(len(node.targets), 1)
                    bound.append(node.targets[0].id)
            self.assertEqual(len(bound), len(set(bound)), name)
            self.assertFalse(set(bound) & set(dir(builtins)), name)

    def test_functions(self):
        for name, _, tree in parsed():
            own = set()
            for node in tree.body:
                if isinstance(node, ast.ClassDef):
                    own.add(node.name)
                if isinstance(node, ast.ImportFrom):
                    own |= {part.name for part in node.names}
            for node in ast.walk(tree):
                if isinstance(node, ast.FunctionDef):
                    self.assertLessEqual(node.end_lineno - node.lineno + 1, 40, (name, node.name))
                    for mark in node.decorator_list:
                        self.assertIn(mark.id, ("property", "classmethod", "staticmethod"))
                if isinstance(node, (ast.FunctionDef, ast.Lambda)):
                    bound = bound_in(node)
                    self.assertFalse(bound & own, name)
                    self.assertFalse(bound & set(dir(builtins)) - {"_"}, name)
                    self.assertFalse(bound & BARRED, name)

    def test_names(self):
        for name, text, tree in parsed():
            for node in without_docstrings(tree):
                if isinstance(node, ast.Name) and node.id in dir(builtins):
                    self.assertIn(node.id, LET, name)
                if isinstance(node, ast.Name):
                    self.assertNotIn(node.id, BARRED, name)
                if isinstance(node, (ast.FunctionDef, ast.Attribute)):
                    word = node.name if isinstance(node, ast.FunctionDef) else node.attr
                    self.assertNotIn(word, BARRED, name)
                    if word.startswith("__"):
                        self.assertIn(word, DOUBLES, name)
                if isinstance(node, ast.Constant) and isinstance(node.value, str):
                    self.assertIsNone(WORDS.search(node.value), (name, node.value))
                    self.assertNotIn("%", node.value, name)
                if isinstance(node, (ast.Name, ast.Attribute)):
                    word = node.id if isinstance(node, ast.Name) else node.attr
                    self.assertIsNone(WORDS.search(word), (name, word))

    def test_methods(self):
        own = set()
        for _, _, tree in parsed():
            for node in ast.walk(tree):
                if isinstance(node, ast.ClassDef):
                    own |= {part.name for part in node.body if isinstance(part, ast.FunctionDef)}
        for name, _, tree in parsed():
            for node in ast.walk(tree):
                if isinstance(node, ast.Call) and isinstance(node.func, ast.Attribute):
                    self.assertIn(node.func.attr, own | METHODS, name)

    def test_statements(self):
        barred = (ast.Global, ast.AsyncFunctionDef, ast.Yield, ast.YieldFrom, ast.GeneratorExp, ast.Set, ast.Starred,
                  ast.Try, ast.With, ast.Match, ast.Nonlocal, ast.Div, ast.SetComp, ast.NamedExpr, ast.AnnAssign)
        for name, _, tree in parsed():
            for node in ast.walk(tree):
                self.assertNotIsInstance(node, barred, (name, getattr(node, "lineno", None)))
                self.assertFalse(isinstance(node, ast.Constant) and isinstance(node.value, float), name)
                if isinstance(node, ast.Compare) and any(isinstance(op, (ast.Is, ast.IsNot)) for op in node.ops):
                    self.assertIn(node.comparators[0].value, (None, True, False), name)

    def test_what_operators_change(self):
        # L5 and L28: operators, properties, __eq__, __len__ and __repr__; tests.test_purity tells how it looks.
        self.assertEqual(looked_at([tree for _, _, tree in parsed()]), [])

    def test_heaps(self):
        # L2 Heaps with L28: what comparisons may not change beside an import from heapq.
        self.assertEqual(heap_faults([tree for _, _, tree in parsed()]), [])
        for name, _, tree in parsed():
            for node in ast.walk(tree):
                if isinstance(node, ast.Call) and isinstance(node.func, ast.Name) and node.func.id.startswith("heap"):
                    self.assertEqual(node.keywords, [], name)
                    self.assertIsInstance(node.args[0], (ast.Name, ast.Attribute, ast.Subscript), name)
                if isinstance(node, ast.ClassDef):
                    orders = {"__lt__", "__le__", "__gt__", "__ge__"}
                    self.assertFalse(orders & {part.name for part in node.body if isinstance(part, ast.FunctionDef)}, name)

    def test_sets_and_lazy_calls(self):
        for name, _, tree in parsed():
            above = {}
            for node in ast.walk(tree):
                for child in ast.iter_child_nodes(node):
                    above[child] = node
            for node in ast.walk(tree):
                if not isinstance(node, ast.Call) or not isinstance(node.func, ast.Name):
                    continue
                over = above[node]
                if node.func.id == "set":
                    self.assertIsInstance(over, ast.Call, (name, node.lineno))
                    self.assertIn(over.func.id, ("sorted", "len"))
                if node.func.id in ("zip", "enumerate", "reversed", "range"):
                    self.assertIsInstance(over, (ast.For, ast.comprehension, ast.Call), (name, node.lineno))


if __name__ == "__main__":
    unittest.main()
