"""What operators and properties run changes only what it created itself (LANGUAGE.md, L5 and L28).

The look follows calls by name: a call of `name(..)` may run the function or the class of that name,
a call of `x.name(..)` each method of that name. So it may see more than is ever run, never less.
"""

import ast
import pathlib
import unittest

FOLDER = pathlib.Path(__file__).resolve().parent.parent / "lonetill"
CHANGING = set("append extend insert pop remove clear reverse setdefault update sort add discard".split())
MAKING = set("list dict set sorted".split())
HEAPS = set("heappush heappop heapify heapreplace heappushpop".split())
COMPARING = set("__eq__ __len__ __str__ __repr__ __lt__ __le__ __gt__ __ge__".split())
IN_PLACE = set("__iadd__ __isub__ __ior__ __iand__ __setitem__".split())


def functions_of(trees):
    """All functions and methods by their names, and the classes' __init__ by the classes' names."""
    out = {}
    for tree in trees:
        for node in tree.body:
            if isinstance(node, ast.FunctionDef):
                out.setdefault(("plain", node.name), []).append(node)
            if isinstance(node, ast.ClassDef):
                for part in node.body:
                    if isinstance(part, ast.FunctionDef):
                        out.setdefault(("method", part.name), []).append(part)
                        if part.name == "__init__":
                            out.setdefault(("plain", node.name), []).append(part)
    return out


def is_root(function):
    """Whether it is an operator, a property or another method that Python calls by itself."""
    marks = [mark.id for mark in function.decorator_list if isinstance(mark, ast.Name)]
    doubled = function.name.startswith("__") and function.name.endswith("__")
    return "property" in marks or (doubled and function.name not in IN_PLACE | {"__init__", "__call__", "__enter__", "__exit__"})


def called_from(function, table):
    """The functions that a call in this one may run."""
    out = []
    for node in ast.walk(function):
        if isinstance(node, ast.Call) and isinstance(node.func, ast.Name):
            out += table.get(("plain", node.func.id), [])
        if isinstance(node, ast.Call) and isinstance(node.func, ast.Attribute):
            out += table.get(("method", node.func.attr), [])
    return out


def reached(table):
    """All functions that operators and properties may run."""
    return all_called([function for key, functions in table.items() if key[0] == "method"
                       for function in functions if is_root(function)], table)


def all_called(row, table):
    """The functions of the row, and all that they may run."""
    seen = set(map(id, row))
    for function in row:
        for behind in called_from(function, table):
            if id(behind) not in seen:
                seen.add(id(behind))
                row.append(behind)
    return row


def parameters_of(function):
    """The names of the parameters."""
    args = function.args
    return {arg.arg for arg in args.posonlyargs + args.args + args.kwonlyargs}


def bindings_of(function, name):
    """What the name is assigned in the function: values, or None where it is bound in another way."""
    out = []
    for node in ast.walk(function):
        if isinstance(node, ast.Assign):
            alone = len(node.targets) == 1 and isinstance(node.targets[0], ast.Name)
            for target in node.targets:
                for part in ast.walk(target):
                    if isinstance(part, ast.Name) and part.id == name and isinstance(part.ctx, ast.Store):
                        out.append(node.value if alone else None)
        if isinstance(node, ast.For):
            out += [None for part in ast.walk(node.target) if isinstance(part, ast.Name) and part.id == name]
        if isinstance(node, ast.AugAssign) and isinstance(node.target, ast.Name) and node.target.id == name:
            out.append(None)
    return out


def is_new(value):
    """Whether the value is a list, dict or set that is created there."""
    if isinstance(value, (ast.List, ast.Dict, ast.ListComp, ast.DictComp, ast.SetComp)):
        return True
    if isinstance(value, ast.Subscript):
        return isinstance(value.slice, ast.Slice)
    if isinstance(value, ast.BinOp) and isinstance(value.op, ast.Mult):
        return is_new(value.left)
    if isinstance(value, ast.BinOp) and isinstance(value.op, ast.Add):
        return is_new(value.left) or is_new(value.right)
    if isinstance(value, ast.Call) and isinstance(value.func, ast.Name):
        return value.func.id in MAKING
    return isinstance(value, ast.Call) and isinstance(value.func, ast.Attribute) and value.func.attr == "copy"


def is_nested_new(value):
    """Whether all items of the created list or dict are created there, too (or it is empty)."""
    if isinstance(value, ast.ListComp):
        return is_new(value.elt)
    if isinstance(value, ast.DictComp):
        return is_new(value.value)
    if isinstance(value, ast.List):
        return all(is_new(part) for part in value.elts)
    return isinstance(value, ast.Dict) and all(is_new(part) for part in value.values)


def owns(function, target):
    """Whether the function created the list, dict or set that the node names."""
    if isinstance(target, ast.Name):
        values = bindings_of(function, target.id)
        return target.id not in parameters_of(function) and len(values) > 0 and all(map(is_new, values))
    if isinstance(target, ast.Subscript) and isinstance(target.value, ast.Name):
        name = target.value.id
        values = bindings_of(function, name)
        if name in parameters_of(function) or not values or not all(is_nested_new(value) for value in values):
            return False
        return all(is_new(value) for value in put_into(function, name))
    if isinstance(target, ast.Call) and isinstance(target.func, ast.Attribute) and target.func.attr == "setdefault":
        return owns(function, target.func.value) and is_new(target.args[1])
    return False


def put_into(function, name):
    """All values that become items of the list or dict of this name."""
    out = []
    for node in ast.walk(function):
        if isinstance(node, ast.Assign):
            for target in node.targets:
                if isinstance(target, ast.Subscript) and isinstance(target.value, ast.Name) and target.value.id == name:
                    out.append(node.value)
        if isinstance(node, ast.Call) and isinstance(node.func, ast.Attribute) and node.func.attr == "append":
            if isinstance(node.func.value, ast.Name) and node.func.value.id == name:
                out.append(node.args[0])
    return out


def made_objects(function, classes):
    """The local names that are only ever assigned calls of own classes."""
    out = set()
    for node in ast.walk(function):
        if isinstance(node, ast.Name) and isinstance(node.ctx, ast.Store):
            values = bindings_of(function, node.id)
            if values and all(isinstance(value, ast.Call) and isinstance(value.func, ast.Name)
                              and value.func.id in classes for value in values):
                out.add(node.id)
    return out


def faults_in(function, classes):
    """The lines of the function that change what it may not."""
    out = []
    made = made_objects(function, classes)
    local = parameters_of(function) | {node.id for node in ast.walk(function) if isinstance(node, ast.Name)
                                       and isinstance(node.ctx, ast.Store)}
    for node in ast.walk(function):
        targets = []
        if isinstance(node, ast.Assign):
            targets = [part for target in node.targets for part in ast.walk(target)
                       if isinstance(part, (ast.Subscript, ast.Attribute)) and isinstance(part.ctx, ast.Store)]
        if isinstance(node, ast.Delete):
            targets = [part for part in node.targets if isinstance(part, (ast.Subscript, ast.Attribute))]
        if isinstance(node, ast.AugAssign):
            plain = isinstance(node.target, ast.Name) and isinstance(node.op, ast.Add)
            if not plain or not isinstance(node.value, ast.Constant) or not isinstance(node.value.value, int):
                out.append(node.lineno)
        for target in targets:
            if isinstance(target, ast.Subscript) and not owns(function, target.value):
                out.append(node.lineno)
            if isinstance(target, ast.Attribute):
                name = target.value.id if isinstance(target.value, ast.Name) else None
                if not (function.name == "__init__" and name == "self") and name not in made:
                    out.append(node.lineno)
        if isinstance(node, ast.Call) and isinstance(node.func, ast.Attribute) and node.func.attr in CHANGING:
            if not owns(function, node.func.value):
                out.append(node.lineno)
        if isinstance(node, ast.Call) and isinstance(node.func, ast.Name):
            if node.func.id in HEAPS and not owns(function, node.args[0]):
                out.append(node.lineno)
            if node.func.id in local - {"cls"}:
                out.append(node.lineno)
    return out


def looked_at(trees):
    """The faults of all functions that operators and properties may run: tuples (name, line)."""
    table = functions_of(trees)
    classes = {node.name for tree in trees for node in tree.body if isinstance(node, ast.ClassDef)}
    return [(function.name, line) for function in reached(table) for line in faults_in(function, classes)]


def uses_heaps(trees):
    """Whether a file imports from heapq."""
    return any(isinstance(node, ast.ImportFrom) and node.module == "heapq" for tree in trees for node in ast.walk(tree))


def changes_in(function):
    """The lines of the function that modify a list, a dict, a set or an object, its own ones among them."""
    out = []
    for node in ast.walk(function):
        if isinstance(node, (ast.Assign, ast.Delete)):
            out += [node.lineno for target in node.targets for part in ast.walk(target)
                    if isinstance(part, (ast.Subscript, ast.Attribute)) and not isinstance(part.ctx, ast.Load)]
        if isinstance(node, ast.AugAssign) and not isinstance(node.target, ast.Name):
            out.append(node.lineno)
        if isinstance(node, ast.Call) and isinstance(node.func, ast.Attribute) and node.func.attr in CHANGING:
            out.append(node.lineno)
        if isinstance(node, ast.Call) and isinstance(node.func, ast.Name) and node.func.id in HEAPS:
            out.append(node.lineno)
    return out


def heap_faults(trees):
    """Beside heapq: the lines of __eq__, __len__, __str__, __repr__, orders, and all they call, that modify anything."""
    if not uses_heaps(trees):
        return []
    table = functions_of(trees)
    names = COMPARING & {name for word, name in table if word == "method"}
    row = [function for name in sorted(names) for function in table["method", name]]
    return [(function.name, line) for function in all_called(row, table) for line in changes_in(function)]


def attributes_in(trees):
    """The names of all attributes that methods assign to their own objects, or that are assigned elsewhere."""
    return {node.attr for tree in trees for node in ast.walk(tree)
            if isinstance(node, ast.Attribute) and isinstance(node.ctx, ast.Store)}


class Purity(unittest.TestCase):
    def test_no_called_name_is_an_attribute(self):
        trees = [ast.parse(path.read_text()) for path in sorted(FOLDER.glob("*.py"))]
        table, attributes = functions_of(trees), attributes_in(trees)
        for function in reached(table):
            for node in ast.walk(function):
                if isinstance(node, ast.Call) and isinstance(node.func, ast.Attribute):
                    self.assertNotIn(node.func.attr, attributes, function.name)

    def test_package(self):
        trees = [ast.parse(path.read_text()) for path in sorted(FOLDER.glob("*.py"))]
        self.assertEqual(looked_at(trees), [])
        self.assertGreater(len(reached(functions_of(trees))), 30)

    def test_beside_heaps(self):
        # L2 Heaps: beside an import from heapq comparisons modify nothing at all, lists of their own neither.
        trees = [ast.parse(path.read_text()) for path in sorted(FOLDER.glob("*.py"))]
        self.assertEqual(heap_faults(trees), [])
        head = "from heapq import heappush\n\n\n"
        frame = "class Box:\n    def __eq__(self, other):\n        return made(self, other)\n\n\ndef made(box, xs):\n"
        for body in ("    out = []\n    out.append(1)\n", "    out = [1]\n    out[0] = 2\n", "    out = {}\n    del out[1]\n",
                     "    box.many = 1\n", "    out = []\n    heappush(out, 1)\n", "    out = [1]\n    out[0] += 1\n"):
            with self.subTest(body):
                self.assertEqual(len(heap_faults([ast.parse(head), ast.parse(frame + body)])), 1)
                self.assertEqual(heap_faults([ast.parse(frame + body)]), [])
        self.assertEqual(heap_faults([ast.parse(head), ast.parse(frame + "    return sorted(xs)\n")]), [])

    def test_what_is_seen(self):
        frame = "class Box:\n    def __or__(self, other):\n        return made(self, other)\n\n\ndef made(box, xs):\n"
        for body in ("    out, k = [], 1\n    out.append(k)\n", "    xs.append(1)\n", "    out = [xs]\n    out[0][1] = 2\n",
                     "    box.rows = xs\n", "    box.rows[1] = xs\n", "    out = xs\n    out.extend(xs)\n",
                     "    del xs[0]\n", "    xs[0] += 1\n", "    k = len(xs)\n    k += k\n", "    return xs(1)\n",
                     "    out = []\n    for out in xs:\n        out.append(1)\n", "    heappush(xs, 1)\n"):
            with self.subTest(body):
                self.assertEqual(len(looked_at([ast.parse(frame + body)])), 1)

    def test_what_may_be(self):
        frame = "class Box:\n    @property\n    def many(self):\n        return made(self, [])\n\n\ndef made(box, xs):\n"
        for body in ("    out = []\n    out.append(1)\n", "    out = xs[1:]\n    out[0] = 2\n", "    k = 0\n    k += 1\n",
                     "    out = [[] for k in xs]\n    out[0].append(1)\n", "    out = xs + [1]\n    out.pop()\n",
                     "    out = {}\n    out.setdefault(1, []).append(2)\n", "    play = Box()\n    play.rows = xs\n"):
            with self.subTest(body):
                self.assertEqual(looked_at([ast.parse(frame + body)]), [])


if __name__ == "__main__":
    unittest.main()
