"""The rules of LANGUAGE.md that a look at the tree of the code can judge."""

import ast
import builtins
import pathlib
import re
import unittest

from tests.test_purity import heap_faults, looked_at

FOLDER = pathlib.Path(__file__).resolve().parent.parent / "lonetill"
FILES = sorted(FOLDER.glob("*.py"))
LET = set("""len range enumerate zip min max sum abs sorted reversed int str bool bytes list tuple dict set frozenset
isinstance ord repr any all divmod pow Exception ValueError TypeError KeyError IndexError LookupError
ZeroDivisionError ArithmeticError OverflowError RuntimeError NotImplementedError NotImplemented property
classmethod staticmethod iter next getattr hasattr setattr map super""".split())
METHODS = set("""append clear copy count endswith extend find get index insert isalnum isalpha isdigit islower isspace
isupper items join keys ljust lower lstrip partition pop remove replace reverse rfind rjust rpartition rsplit
rstrip setdefault split splitlines startswith strip update upper values zfill bit_length add discard""".split())
DOUBLES = set("""__init__ __eq__ __repr__ __str__ __len__ __enter__ __exit__ __call__ __or__ __and__ __sub__
__contains__ __getitem__ __iter__""".split())
BARRED = set("""register mro elements open input law version_info with_traceback add_note attrgetter breakpoint
builtins compile copyright credits delattr dir eval exec exit gc globals help id importlib license locals
methodcaller os quit type vars sys""".split())
WORDS = re.compile(r"\b(type|typing|typing_extensions|enum|Enum|IntEnum|StrEnum|Flag|IntFlag|Generic|Protocol|ABC"
                   r"|ABCMeta|namedtuple|NamedTuple|TypedDict|TYPE_CHECKING|abstractmethod)\b|dataclass|overload|contextmanager")
LIBRARY = {"heapq", "math", "itertools", "collections"}


def parsed():
    """Each file with its text and its tree."""
    return [(path.name, path.read_text(), ast.parse(path.read_text())) for path in FILES]


def bound_in(function):
    """All names that a function (or lambda) binds, its parameters too."""
    names = {arg.arg for arg in function.args.posonlyargs + function.args.args + function.args.kwonlyargs}
    for node in ast.walk(function):
        if isinstance(node, ast.Name) and isinstance(node.ctx, (ast.Store, ast.Del)):
            names.add(node.id)
        if isinstance(node, (ast.FunctionDef, ast.Lambda)) and node is not function:
            names |= {arg.arg for arg in node.args.args}
    return names


def without_docstrings(tree):
    """All nodes of a tree but its docstrings."""
    told = set()
    for node in ast.walk(tree):
        if isinstance(node, (ast.Module, ast.ClassDef, ast.FunctionDef)) and ast.get_docstring(node) is not None:
            told.add(id(node.body[0].value))
    return [node for node in ast.walk(tree) if id(node) not in told]


class Language(unittest.TestCase):
    def test_files(self):
        names = {path.name for path in FOLDER.iterdir() if path.name != "__pycache__"}
        self.assertEqual(names, {path.name for path in FILES})
        self.assertIn("__init__.py", names)
        for name, text, _ in parsed():
            self.assertRegex(name, r"\A[a-z0-9_]+\.py\Z")
            self.assertLessEqual(len(text.splitlines()), 399, name)
            self.assertTrue(set(text) <= {chr(k) for k in range(32, 127)} | {"\n"}, name)
            for line in text.splitlines():
                self.assertLessEqual(len(line), 120, (name, line))

    def test_imports(self):
        for name, text, tree in parsed():
            used = {node.id for node in ast.walk(tree) if isinstance(node, ast.Name)}
            for node in ast.walk(tree):
                self.assertNotIsInstance(node, ast.Import, name)
                if isinstance(node, ast.ImportFrom):
                    self.assertIn(node, tree.body)
                    self.assertTrue(node.module.startswith("lonetill.") or node.module in LIBRARY, name)
                    for part in node.names:
                        self.assertIsNone(part.asname)
                        self.assertIn(part.name, used, (name, part.name))
                        self.check_defined(node.module, part.name)

    def check_defined(self, module, name):
        if module in LIBRARY:
            return
        tree = ast.parse((FOLDER / (module.split(".")[1] + ".py")).read_text())
        names = {node.name for node in tree.body if isinstance(node, (ast.FunctionDef, ast.ClassDef))}
        for node in tree.body:
            if isinstance(node, ast.Assign):
                names |= {target.id for target in node.targets}
        self.assertIn(name, names, module)

    def test_no_circles(self):
        needs = {}
        for name, _, tree in parsed():
            needs[name[:-3]] = {node.module.split(".")[1] for node in ast.walk(tree)
                                if isinstance(node, ast.ImportFrom) and node.module.startswith("lonetill.")}
        while needs:
            free = [name for name, others in needs.items() if not others & set(needs)]
            self.assertTrue(free, needs)
            needs = {name: others for name, others in needs.items() if name not in free}

    def test_module_level(self):
        for name, _, tree in parsed():
            bound = []
            for node in tree.body:
                self.assertIsInstance(node, (ast.Expr, ast.ImportFrom, ast.FunctionDef, ast.ClassDef, ast.Assign), name)
                if isinstance(node, (ast.FunctionDef, ast.ClassDef)):
                    bound.append(node.name)
                if isinstance(node, ast.ImportFrom):
                    bound += [part.name for part in node.names]
                if isinstance(node, ast.Assign):
                    self.assertEqual(len(node.targets), 1)
                    bound.append(node.targets[0].id)
            self.assertEqual(len(bound), len(set(bound)), name)
            self.assertFalse(set(bound) & set(dir(builtins)), name)

    def test_functions(self):
        for name, _, tree in parsed():
            own = set()
            for node in tree.body:
                if isinstance(node, ast.ClassDef):
                    own.add(node.name)
                if isinstance(node, ast.ImportFrom):
                    own |= {part.name for part in node.names}
            for node in ast.walk(tree):
                if isinstance(node, ast.FunctionDef):
                    self.assertLessEqual(node.end_lineno - node.lineno + 1, 40, (name, node.name))
                    for mark in node.decorator_list:
                        self.assertIn(mark.id, ("property", "classmethod", "staticmethod"))
                if isinstance(node, (ast.FunctionDef, ast.Lambda)):
                    bound = bound_in(node)
                    self.assertFalse(bound & own, name)
                    self.assertFalse(bound & set(dir(builtins)) - {"_"}, name)
                    self.assertFalse(bound & BARRED, name)

    def test_names(self):
        for name, text, tree in parsed():
            for node in without_docstrings(tree):
                if isinstance(node, ast.Name) and node.id in dir(builtins):
                    self.assertIn(node.id, LET, name)
                if isinstance(node, ast.Name):
                    self.assertNotIn(node.id, BARRED, name)
                if isinstance(node, (ast.FunctionDef, ast.Attribute)):
                    word = node.name if isinstance(node, ast.FunctionDef) else node.attr
                    self.assertNotIn(word, BARRED, name)
                    if word.startswith("__"):
                        self.assertIn(word, DOUBLES, name)
                if isinstance(node, ast.Constant) and isinstance(node.value, str):
                    self.assertIsNone(WORDS.search(node.value), (name, node.value))
                    self.assertNotIn("%", node.value, name)
                if isinstance(node, (ast.Name, ast.Attribute)):
                    word = node.id if isinstance(node, ast.Name) else node.attr
                    self.assertIsNone(WORDS.search(word), (name, word))

    def test_methods(self):
        own = set()
        for _, _, tree in parsed():
            for node in ast.walk(tree):
                if isinstance(node, ast.ClassDef):
                    own |= {part.name for part in node.body if isinstance(part, ast.FunctionDef)}
        for name, _, tree in parsed():
            for node in ast.walk(tree):
                if isinstance(node, ast.Call) and isinstance(node.func, ast.Attribute):
                    self.assertIn(node.func.attr, own | METHODS, name)

    def test_statements(self):
        barred = (ast.Global, ast.AsyncFunctionDef, ast.Yield, ast.YieldFrom, ast.GeneratorExp, ast.Set, ast.Starred,
                  ast.Match, ast.Nonlocal, ast.Div, ast.SetComp, ast.NamedExpr, ast.AnnAssign)
        for name, _, tree in parsed():
            for node in ast.walk(tree):
                self.assertNotIsInstance(node, barred, (name, getattr(node, "lineno", None)))
                self.assertFalse(isinstance(node, ast.Constant) and isinstance(node.value, float), name)
                if isinstance(node, ast.Compare) and any(isinstance(op, (ast.Is, ast.IsNot)) for op in node.ops):
                    self.assertIn(node.comparators[0].value, (None, True, False), name)

    def test_own_errors_alone_are_caught(self):
        errors = {node.name for name, _, tree in parsed() if name == "errors.py" for node in tree.body if isinstance(node, ast.ClassDef)}
        for name, _, tree in parsed():
            for node in ast.walk(tree):
                if isinstance(node, ast.Try):
                    self.assertEqual(node.finalbody, [], name)
                    for handler in node.handlers:
                        kinds = handler.type.elts if isinstance(handler.type, ast.Tuple) else [handler.type]
                        self.assertTrue({kind.id for kind in kinds} <= errors, (name, node.lineno))
                if isinstance(node, ast.Raise):
                    self.assertIsInstance(node.exc, ast.Call, (name, node.lineno))
                    self.assertIn(node.exc.func.id, errors | {"TypeError"}, (name, node.lineno))
                    self.assertTrue(node.cause is None or isinstance(node.cause, ast.Name), (name, node.lineno))

    def test_blocks_and_what_is_behind_them(self):
        # L6 With: a call of an own class; its __exit__ only gives attributes other values.
        managers = set()
        for name, _, tree in parsed():
            for node in ast.walk(tree):
                if isinstance(node, ast.ClassDef) and any(getattr(part, "name", None) == "__enter__" for part in node.body):
                    managers.add(node.name)
                if isinstance(node, ast.FunctionDef) and node.name == "__exit__":
                    self.assertEqual([arg.arg for arg in node.args.args], ["self", "kind", "value", "trace"])
                    for part in node.body[ast.get_docstring(node) is not None:]:
                        self.assertIsInstance(part, ast.Assign)
                        self.assertIsInstance(part.value, (ast.Attribute, ast.Name))
        for name, _, tree in parsed():
            for node in ast.walk(tree):
                if isinstance(node, ast.With):
                    for item in node.items:
                        self.assertIn(item.context_expr.func.id, managers, (name, node.lineno))

    def test_names_of_methods_and_attributes(self):
        # L18, L5 Properties, L26.
        methods, marked, stored = {}, {}, {}
        for _, _, tree in parsed():
            for box in [node for node in ast.walk(tree) if isinstance(node, ast.ClassDef)]:
                for part in [node for node in box.body if isinstance(node, ast.FunctionDef)]:
                    table = marked if part.decorator_list else methods
                    table.setdefault(part.name, set()).add(box.name)
                    for node in ast.walk(part):
                        if isinstance(node, ast.Attribute) and isinstance(node.ctx, ast.Store):
                            stored.setdefault(node.attr, set()).add(box.name)
        for name in marked:
            self.assertNotIn(name, methods)
            self.assertNotIn(name, stored)
        for name in methods:
            self.assertFalse(methods[name] & stored.get(name, set()), name)
        self.assertFalse({"keys", "items", "values", "format", "decode", "sort", "args"} & (set(methods) | set(marked) | set(stored)))

    def test_an_object_with_items_is_not_iterated_over(self):
        # L5 Operators: beside __getitem__ stands an __iter__ that raises; L17: some words stand nowhere.
        for name, text, tree in parsed():
            for box in [node for node in ast.walk(tree) if isinstance(node, ast.ClassDef)]:
                parts = {part.name: part for part in box.body if isinstance(part, ast.FunctionDef)}
                if "__getitem__" in parts:
                    self.assertIsInstance(parts["__iter__"].body[-1], ast.Raise)
                    self.assertEqual(parts["__iter__"].body[-1].exc.func.id, "TypeError")
            self.assertIsNone(re.search(r"\(type\)|Meta|metaclass=", text), name)
            for node in ast.walk(tree):
                if isinstance(node, ast.Call) and isinstance(node.func, ast.Name) and node.func.id == "reversed":
                    self.assertIn(node.args[0].func.id, ("list", "tuple", "sorted", "range"), name)
                if isinstance(node, ast.keyword) and node.arg == "key":
                    self.assertNotIsInstance(node.value, ast.Lambda, name)

    def test_tables_hold_plain_values(self):
        # L3, L15: within lists, dicts and tuples at module level stand no lists and dicts; functions come from above.
        for name, _, tree in parsed():
            above = set()
            for node in tree.body:
                if isinstance(node, ast.ImportFrom):
                    above |= {part.name for part in node.names}
                if isinstance(node, (ast.FunctionDef, ast.ClassDef)):
                    above.add(node.name)
                if isinstance(node, ast.Assign):
                    for part in ast.walk(node.value):
                        if part is not node.value:
                            self.assertNotIsInstance(part, (ast.List, ast.Dict, ast.Set, ast.Call), name)
                        if isinstance(part, ast.Name):
                            self.assertIn(part.id, above, name)
                    above.add(node.targets[0].id)

    def test_lambdas_stand_alone(self):
        for name, _, tree in parsed():
            rows = [node.lineno for node in ast.walk(tree) if isinstance(node, ast.Lambda)]
            self.assertEqual(len(rows), len(set(rows)), name)

    def test_interface_is_defined_in_its_files(self):
        told = {"lids": "lids floors strip", "roofs": "leads_under least_roof roof_ends roof_starts",
                "under": "roof_of is_under low_going is_roof_closed roof_bars", "tight": "with_room tight room_table",
                "readers": "Reader as_house stand_behind takes starts_of many_words",
                "words": "unlike within_reader some_word parting_word is_parting alike_lines is_alike_lines",
                "products": "both either just_one turned_goods",
                "smaller": "alike_places least_reader map_to is_map more_line more_from", "texts": "written", "forms": "read",
                "claims": "words is_claim is_true contrary paper_of is_paper_of", "commands": "is_name is_command is_deed",
                "desk": "Desk Trial tried", "worths": "least_worths is_worths tells_dear", "families": "Least",
                "least": "least_price price_from price_to within", "prices": "is_prices price_of cheapest_going"}
        for file, names in told.items():
            tree = ast.parse((FOLDER / f"{file}.py").read_text())
            defined = {node.name for node in tree.body if isinstance(node, (ast.FunctionDef, ast.ClassDef))}
            self.assertTrue(set(names.split()) <= defined, file)
        tree = ast.parse((FOLDER / "desk.py").read_text())
        desk = next(node for node in tree.body if getattr(node, "name", None) == "Desk")
        self.assertTrue(set("""names labels __len__ __getitem__ __contains__ __call__ claim_of do do_all attempt attach fits
                            lines copy again""".split()) <= {part.name for part in desk.body if isinstance(part, ast.FunctionDef)})

    def test_what_operators_change(self):
        # L5 and L28: operators, properties, __eq__, __len__ and __repr__; tests.test_purity tells how it looks.
        self.assertEqual(looked_at([tree for _, _, tree in parsed()]), [])

    def test_heaps(self):
        # L2 Heaps with L28: what comparisons may not change beside an import from heapq.
        self.assertEqual(heap_faults([tree for _, _, tree in parsed()]), [])
        for name, _, tree in parsed():
            for node in ast.walk(tree):
                if isinstance(node, ast.Call) and isinstance(node.func, ast.Name) and node.func.id.startswith("heap"):
                    self.assertEqual(node.keywords, [], name)
                    self.assertIsInstance(node.args[0], (ast.Name, ast.Attribute, ast.Subscript), name)
                if isinstance(node, ast.ClassDef):
                    orders = {"__lt__", "__le__", "__gt__", "__ge__"}
                    self.assertFalse(orders & {part.name for part in node.body if isinstance(part, ast.FunctionDef)}, name)

    def test_sets_and_lazy_calls(self):
        for name, _, tree in parsed():
            above = {}
            for node in ast.walk(tree):
                for child in ast.iter_child_nodes(node):
                    above[child] = node
            for node in ast.walk(tree):
                if not isinstance(node, ast.Call) or not isinstance(node.func, ast.Name):
                    continue
                over = above[node]
                if node.func.id == "set":
                    self.assertIsInstance(over, ast.Call, (name, node.lineno))
                    self.assertIn(over.func.id, ("sorted", "len"))
                if node.func.id in ("zip", "enumerate", "reversed", "range"):
                    self.assertIsInstance(over, (ast.For, ast.comprehension, ast.Call), (name, node.lineno))


if __name__ == "__main__":
    unittest.main()
