"""The rules of LANGUAGE.md that can be looked at without running: L1 to L28 as far as the package meets them."""

import ast
import builtins
import os
import unittest

TOP = os.path.join(os.path.dirname(os.path.dirname(os.path.abspath(__file__))), "wherewhen")

LIBRARY = {"math": ("gcd", "lcm", "isqrt"), "heapq": ("heappush", "heappop"), "itertools": ("product", "combinations")}
FREE_BUILTINS = """len range enumerate zip min max sum abs sorted reversed int str bool list tuple dict set isinstance
    ord repr any all divmod Exception ValueError TypeError KeyError IndexError LookupError ZeroDivisionError
    ArithmeticError OverflowError RuntimeError NotImplementedError AttributeError StopIteration""".split()
METHODS = """append clear copy count endswith extend find get index insert isalnum isalpha isdigit islower isspace
    isupper items join keys ljust lower lstrip partition pop remove replace reverse rfind rjust rpartition rsplit rstrip
    setdefault split splitlines startswith strip update upper values zfill bit_length removeprefix
    isascii add discard""".split()
BARRED_WORDS = """mro elements open input law version_info with_traceback add_note register attrgetter breakpoint
    builtins compile copyright credits delattr dir eval exec exit gc globals help id importlib license locals
    methodcaller os quit setattr super type vars sys""".split()
BARRED_NODES = (ast.AsyncFunctionDef, ast.AsyncFor, ast.AsyncWith, ast.Await, ast.Global, ast.Nonlocal, ast.AnnAssign,
                ast.Div, ast.MatMult, ast.Set, ast.SetComp, ast.Import, ast.Yield, ast.YieldFrom, ast.With,
                ast.Lambda, ast.NamedExpr, ast.Delete, ast.Match)
PLAIN_METHODS = ("__init__", "__eq__", "__len__")
ITERATED_BY = ("list", "tuple", "dict", "sorted", "sum", "any", "all", "enumerate", "zip", "min", "max")
ON_THE_SPOT = ("zip", "enumerate", "reversed", "range", "map", "product", "combinations")


def files():
    for folder, inner, names in sorted(os.walk(TOP)):
        inner[:] = sorted(name for name in inner if name != "__pycache__")
        for name in sorted(names):
            yield os.path.join(folder, name)


def module_of(path):
    words = os.path.relpath(path, os.path.dirname(TOP))[:-3].split(os.sep)
    return ".".join(words[:-1] if words[-1] == "__init__" else words)


def texts():
    found = {}
    for path in files():
        with open(path, encoding="utf-8") as file:
            found[path] = file.read()
    return found


def is_docstring(node):
    return isinstance(node, ast.Expr) and isinstance(node.value, ast.Constant) and isinstance(node.value.value, str)


def bound_at_top(tree):
    """The names of a file, each with what binds it, in order."""
    found = []
    for node in tree.body:
        if isinstance(node, ast.ImportFrom):
            found += [(alias.name, node) for alias in node.names]
        elif isinstance(node, (ast.FunctionDef, ast.ClassDef)):
            found.append((node.name, node))
        elif isinstance(node, ast.Assign):
            found.append((node.targets[0].id, node))
    return found


def local_names(function):
    names = [part.arg for part in ast.walk(function.args) if isinstance(part, ast.arg)]
    for node in ast.walk(function):
        if isinstance(node, ast.Name) and isinstance(node.ctx, ast.Store):
            names.append(node.id)
        if isinstance(node, ast.FunctionDef) and node is not function:
            names.append(node.name)
    return names


class LanguageTest(unittest.TestCase):

    def setUp(self):
        self.texts = texts()
        self.trees = {path: ast.parse(text) for path, text in self.texts.items()}

    def nodes(self, *kinds):
        for path, tree in self.trees.items():
            for node in ast.walk(tree):
                if isinstance(node, kinds):
                    yield f"{path}:{getattr(node, 'lineno', 0)}", node

    def test_files(self):
        self.assertLessEqual(len(self.texts), 100)
        for path, text in self.texts.items():
            name = os.path.basename(path)
            self.assertTrue(name.endswith(".py") and name == name.lower(), path)
            self.assertIn(os.path.join(os.path.dirname(path), "__init__.py"), self.texts)
            self.assertFalse(os.path.isdir(path[:-3]), path)
            self.assertNotIn(name[:-3], dir(builtins))
            self.assertLessEqual(len(text.splitlines()), 399, path)
            for line in text.split("\n"):
                self.assertLessEqual(len(line), 120, path)
                self.assertTrue(all(" " <= sign <= "~" for sign in line), path)

    def test_module_level(self):
        for path, tree in self.trees.items():
            for node in tree.body:
                plain = isinstance(node, ast.Assign) and len(node.targets) == 1 and isinstance(node.targets[0], ast.Name)
                known = isinstance(node, (ast.ImportFrom, ast.FunctionDef, ast.ClassDef))
                self.assertTrue(plain or known or is_docstring(node), path)
            names = [name for name, node in bound_at_top(tree)]
            self.assertEqual(len(names), len({*names}), path)
            for name in names:
                self.assertFalse(name in dir(builtins) or name in BARRED_WORDS, (path, name))

    def test_imports(self):
        reached = {}
        own = {module_of(path): tree for path, tree in self.trees.items()}
        for path, tree in self.trees.items():
            reached[module_of(path)] = []
            for node in ast.walk(tree):
                if not isinstance(node, ast.ImportFrom):
                    continue
                self.assertIn(node, tree.body)
                self.assertEqual(node.level, 0)
                for alias in node.names:
                    self.assertIsNone(alias.asname)
                    if node.module in LIBRARY:
                        self.assertIn(alias.name, LIBRARY[node.module])
                    else:
                        made = [kind for name, kind in bound_at_top(own[node.module]) if name == alias.name]
                        self.assertTrue(made and not isinstance(made[0], ast.ImportFrom), (path, alias.name))
                        reached[module_of(path)].append(node.module)
        done = []
        while len(done) < len(reached):
            free = [name for name in reached if name not in done and all(other in done for other in reached[name])]
            self.assertTrue(free, "files that import from each other")
            done += free

    def test_no_import_is_left_over(self):
        for path, tree in self.trees.items():
            used = {node.id for node in ast.walk(tree) if isinstance(node, ast.Name)}
            for name, node in bound_at_top(tree):
                if isinstance(node, ast.ImportFrom):
                    self.assertIn(name, used, path)

    def test_barred_nodes(self):
        for where, node in self.nodes(*BARRED_NODES):
            self.fail(f"{where}: {type(node).__name__}")
        for where, node in self.nodes(ast.FunctionDef, ast.ClassDef):
            self.assertEqual(node.decorator_list, [], where)
            self.assertTrue(is_docstring(node.body[0]) or node.name in PLAIN_METHODS, f"{where}: no docstring")

    def test_sizes(self):
        for where, node in self.nodes(ast.FunctionDef):
            self.assertLessEqual(node.end_lineno - node.lineno + 1, 40, where)

    def test_constants(self):
        for where, node in self.nodes(ast.Constant):
            self.assertNotIsInstance(node.value, (float, complex, bytes), where)
            if isinstance(node.value, str):
                self.assertNotIn(chr(37), node.value, where)
                self.assertFalse(node.value.startswith("__") and node.value.endswith("__"), where)
        for where, node in self.nodes(ast.BinOp):
            if isinstance(node.op, ast.Pow):
                self.assertTrue(isinstance(node.right, ast.Constant) and 0 <= node.right.value <= 64, where)

    def test_is(self):
        for where, node in self.nodes(ast.Compare):
            for operation, part in zip(node.ops, node.comparators):
                if isinstance(operation, (ast.Is, ast.IsNot)):
                    self.assertTrue(isinstance(part, ast.Constant) and part.value in (None, True, False), where)

    def test_names(self):
        for path, tree in self.trees.items():
            top = {name for name, node in bound_at_top(tree) if isinstance(node, (ast.ImportFrom, ast.ClassDef))}
            for node in ast.walk(tree):
                if isinstance(node, ast.FunctionDef):
                    for name in local_names(node):
                        where = (path, node.name, name)
                        self.assertFalse(name in top or name in dir(builtins) or name in BARRED_WORDS, where)
                        self.assertFalse(name.startswith("__"), where)
        for where, node in self.nodes(ast.Name):
            if node.id in dir(builtins):
                self.assertIn(node.id, FREE_BUILTINS, where)

    def test_calls(self):
        defined = {node.name for where, node in self.nodes(ast.FunctionDef, ast.ClassDef)}
        for where, node in self.nodes(ast.Call):
            if isinstance(node.func, ast.Attribute):
                self.assertIn(node.func.attr, METHODS + ["__init__", *defined], where)
            else:
                self.assertIsInstance(node.func, ast.Name, where)

    def test_iterated_at_once(self):
        for path, tree in self.trees.items():
            above = {part: node for node in ast.walk(tree) for part in ast.iter_child_nodes(node)}
            for node in ast.walk(tree):
                if isinstance(node, ast.GeneratorExp):
                    self.fail(f"{path}:{node.lineno}: take a list")
                if isinstance(node, ast.Call) and getattr(node.func, "id", "") in ON_THE_SPOT:
                    holder = above[node]
                    looped = isinstance(holder, (ast.For, ast.comprehension)) and holder.iter is node
                    caller = getattr(holder.func, "id", "") if isinstance(holder, ast.Call) else ""
                    called = caller in ITERATED_BY or caller == "len" and node.func.id == "range"
                    self.assertTrue(looped or called, f"{path}:{node.lineno}")

    def test_raised_on_the_spot(self):
        again = [node for where, handler in self.nodes(ast.ExceptHandler) for node in ast.walk(handler)]
        for where, node in self.nodes(ast.Raise):
            if node.exc is None:
                self.assertIn(node, again, where)
                continue
            self.assertTrue(isinstance(node.exc, ast.Call) and isinstance(node.exc.func, ast.Name), where)
            self.assertEqual(node.exc.keywords, [], where)

    def test_handlers(self):
        own = {node.name for where, node in self.nodes(ast.ClassDef)}
        for where, node in self.nodes(ast.ExceptHandler):
            self.assertIsNone(node.name, where)
            for kind in node.type.elts if isinstance(node.type, ast.Tuple) else [node.type]:
                self.assertIn(kind.id, own, where)
        for where, node in self.nodes(ast.Try):
            for row in node.finalbody:
                plain = isinstance(row, ast.Assign) and isinstance(row.value, (ast.Constant, ast.Name))
                self.assertTrue(plain, where)


if __name__ == "__main__":
    unittest.main()
