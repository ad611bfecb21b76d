"""The rules of the small Python subset that can be seen in the code (L1 to L28, those that a walk can check)."""

import ast
import builtins
import pathlib
import unittest

ROOT = pathlib.Path(__file__).resolve().parent.parent / "trueatlas"

BUILTINS = set("""
    len range enumerate zip min max sum abs sorted reversed int str bool list tuple dict set isinstance ord repr any
    all divmod pow map iter next ValueError TypeError KeyError IndexError LookupError ZeroDivisionError
    """.split())

METHODS = set("""
    append clear copy count endswith extend find get index insert isalnum isalpha isdigit islower isspace isupper items
    join keys ljust lower lstrip partition pop remove replace reverse rfind rjust rpartition rsplit rstrip setdefault
    split splitlines startswith strip update upper values zfill bit_length add discard removeprefix removesuffix
    """.split())

LIBRARY = {
    "math": {"gcd", "lcm", "isqrt", "comb", "perm", "factorial"},
    "heapq": {"heappush", "heappop", "heapify", "heapreplace", "heappushpop"},
    "itertools": {"product", "combinations", "permutations", "chain", "accumulate", "pairwise", "islice",
                  "zip_longest"},
    "collections": {"defaultdict"},
}

BARRED = set("""
    register mro elements open input law version_info with_traceback add_note attrgetter breakpoint builtins compile
    copyright credits delattr dir eval exec exit gc globals help id importlib license locals methodcaller os quit
    type vars sys typing enum Enum Generic Protocol namedtuple NamedTuple dataclass
    """.split())

STATEMENTS = (
    ast.FunctionDef, ast.ClassDef, ast.Return, ast.Delete, ast.Assign, ast.AugAssign, ast.For, ast.While, ast.If,
    ast.With, ast.Raise, ast.Try, ast.Assert, ast.ImportFrom, ast.Nonlocal, ast.Expr, ast.Pass, ast.Break,
    ast.Continue, ast.Match,
)

DOUBLE = {"__init__", "__eq__", "__repr__", "__str__", "__len__"}


def files():
    """The files of the package and their trees."""
    return [(path, ast.parse(path.read_text(encoding="ascii"))) for path in sorted(ROOT.rglob("*.py"))]


def module_names(tree):
    """The names that are bound at module level, as often as they are."""
    found = []
    for node in tree.body:
        if isinstance(node, ast.ImportFrom):
            found.extend(alias.asname or alias.name for alias in node.names)
        elif isinstance(node, (ast.FunctionDef, ast.ClassDef)):
            found.append(node.name)
        elif isinstance(node, ast.Assign):
            found.extend(target.id for target in node.targets)
    return found


def local_names(tree):
    """The parameters and variables of all functions."""
    found = set()
    for function in ast.walk(tree):
        if not isinstance(function, (ast.FunctionDef, ast.Lambda)):
            continue
        for node in ast.walk(function):
            if isinstance(node, ast.arg):
                found.add(node.arg)
            elif isinstance(node, ast.Name) and not isinstance(node.ctx, ast.Load):
                found.add(node.id)
    return found


def classes_and_imports(tree):
    """The names of the classes and the imports of a file."""
    found = set()
    for node in tree.body:
        if isinstance(node, ast.ImportFrom):
            found.update(alias.name for alias in node.names)
        elif isinstance(node, ast.ClassDef):
            found.add(node.name)
    return found


class LanguageTest(unittest.TestCase):

    def none(self, found):
        self.assertEqual(found, [])

    def walk(self):
        for path, tree in files():
            for node in ast.walk(tree):
                yield path.name, getattr(node, "lineno", 0), node

    def test_folder(self):
        for path in ROOT.rglob("*"):
            if "__pycache__" in path.parts:
                continue
            self.assertTrue(path.is_dir() or path.suffix == ".py", path)
            self.assertEqual(path.name, path.name.lower())
            self.assertNotIn(path.stem, ("heapq", "math", "itertools", "collections"))
        self.assertTrue((ROOT / "__init__.py").exists())

    def test_characters_and_sizes(self):
        for path in ROOT.rglob("*.py"):
            text = path.read_text(encoding="utf-8")
            self.none([one for one in text if not (" " <= one <= "~" or one == "\n")])
            rows = text.split("\n")
            self.assertLessEqual(len(rows), 400, path)
            self.none([row for row in rows if len(row) > 120])
        self.none([(name, line) for name, line, node in self.walk()
                   if isinstance(node, ast.FunctionDef) and node.end_lineno - line + 1 > 40])

    def test_imports(self):
        for path, tree in files():
            inside = False
            for node in tree.body:
                if isinstance(node, ast.ImportFrom):
                    self.assertFalse(inside, (path, node.lineno))
                    self.assertEqual(node.level, 0)
                    for alias in node.names:
                        self.check_import(node.module, alias)
                elif not (isinstance(node, ast.Expr) and isinstance(node.value, ast.Constant)):
                    inside = True
            self.none([node.lineno for node in ast.walk(tree)
                       if isinstance(node, ast.ImportFrom) and node not in tree.body])

    def check_import(self, module, alias):
        """Library names come plain; own ones from the very file that defines them."""
        self.assertIsNone(alias.asname)
        if module in LIBRARY:
            self.assertIn(alias.name, LIBRARY[module])
            return
        package, name = module.split(".")
        self.assertEqual(package, "trueatlas")
        tree = ast.parse((ROOT / f"{name}.py").read_text(encoding="ascii"))
        defined = [node.name for node in tree.body if isinstance(node, (ast.FunctionDef, ast.ClassDef))]
        for node in tree.body:
            if isinstance(node, ast.Assign):
                defined.extend(target.id for target in node.targets)
        self.assertIn(alias.name, defined)

    def test_no_circle(self):
        wanted = {}
        for path, tree in files():
            wanted[path.stem] = {node.module.split(".")[1] for node in tree.body
                                 if isinstance(node, ast.ImportFrom) and node.module.startswith("trueatlas.")}
        while wanted:
            free = [name for name in wanted if not wanted[name]]
            self.assertTrue(free, wanted)
            wanted = {name: {other for other in wanted[name] if other not in free}
                      for name in wanted if name not in free}

    def test_module_level(self):
        for path, tree in files():
            for place, node in enumerate(tree.body):
                if isinstance(node, ast.Expr):
                    self.assertEqual(place, 0, (path, node.lineno))
                    self.assertIsInstance(node.value, ast.Constant)
                else:
                    self.assertIsInstance(node, (ast.ImportFrom, ast.FunctionDef, ast.ClassDef, ast.Assign))
            names = module_names(tree)
            self.assertEqual(sorted(names), sorted(set(names)))
            self.none([name for name in names if hasattr(builtins, name)])

    def test_statements(self):
        self.none([(name, line, node) for name, line, node in self.walk()
                   if isinstance(node, ast.stmt) and not isinstance(node, STATEMENTS)])
        self.none([(name, line) for name, line, node in self.walk()
                   if isinstance(node, (ast.FunctionDef, ast.ClassDef)) and node.decorator_list])
        self.none([(name, line) for name, line, node in self.walk()
                   if isinstance(node, ast.ExceptHandler) and node.type is None])

    def test_expressions(self):
        barred = (ast.Div, ast.MatMult, ast.Await, ast.YieldFrom)
        self.none([(name, line) for name, line, node in self.walk() if isinstance(node, barred)])
        for name, line, node in self.walk():
            if isinstance(node, ast.Constant):
                self.assertNotIsInstance(node.value, (float, complex), (name, line))
                if isinstance(node.value, str):
                    self.assertNotIn(chr(37), node.value, (name, line))
            if isinstance(node, ast.BinOp) and isinstance(node.op, ast.Pow):
                self.assertIsInstance(node.right, ast.Constant, (name, line))
            if isinstance(node, ast.Compare):
                for sign, other in zip(node.ops, node.comparators):
                    if isinstance(sign, (ast.Is, ast.IsNot)):
                        self.assertIsInstance(other, ast.Constant, (name, line))

    def test_names(self):
        for path, tree in files():
            known = set(module_names(tree)) | local_names(tree)
            for node in ast.walk(tree):
                if isinstance(node, ast.Name) and node.id not in known:
                    self.assertIn(node.id, BUILTINS, (path, node.lineno))
                if isinstance(node, ast.Name) and node.id == "_":
                    self.assertNotIsInstance(node.ctx, ast.Load, (path, node.lineno))
            for name in local_names(tree):
                self.assertFalse(hasattr(builtins, name) and name != "_", (path, name))
                self.assertNotIn(name, classes_and_imports(tree), path)
            for name in known:
                self.assertNotIn(name, BARRED, path)
                self.assertFalse(name.startswith("__"), (path, name))

    def own_methods(self):
        """The names of the methods of the classes, and those of the attributes, by class."""
        for path, tree in files():
            for node in tree.body:
                if isinstance(node, ast.ClassDef):
                    methods = [item.name for item in node.body if isinstance(item, ast.FunctionDef)]
                    attributes = {item.attr for item in ast.walk(node) if isinstance(item, ast.Attribute)
                                  and isinstance(item.ctx, ast.Store)}
                    yield node.name, methods, attributes

    def test_classes(self):
        """Nothing but methods, each once, with names of which none is an attribute, too (L5, L18, L26)."""
        kinds = (str, int, list, dict, set, bytes, tuple)
        for name, methods, attributes in self.own_methods():
            self.assertEqual(len(methods), len(set(methods)), name)
            self.assertEqual(sorted(attributes & set(methods)), [], name)
            self.none([one for one in [*methods, *attributes]
                       if not one.startswith("__") and any(hasattr(kind, one) for kind in kinds)])
        for name, line, node in self.walk():
            if isinstance(node, ast.ClassDef):
                self.none([item for item in node.body if not isinstance(item, (ast.FunctionDef, ast.Expr))])

    def test_methods(self):
        known = METHODS | {method for _, methods, _ in self.own_methods() for method in methods}
        for name, line, node in self.walk():
            if isinstance(node, ast.Call) and isinstance(node.func, ast.Attribute):
                self.assertIn(node.func.attr, known, (name, line))
            if isinstance(node, ast.ClassDef):
                for item in node.body:
                    if isinstance(item, ast.FunctionDef) and item.name.startswith("__"):
                        self.assertIn(item.name, DOUBLE, (name, line))

    def test_errors_are_made_on_the_spot(self):
        for name, line, node in self.walk():
            if isinstance(node, ast.Raise) and node.exc is not None:
                self.assertIsInstance(node.exc, ast.Call, (name, line))
                self.assertTrue(node.exc.func.id[0].isupper(), (name, line))

    def parents(self):
        """Each node with the one around it."""
        for path, tree in files():
            for around in ast.walk(tree):
                for node in ast.iter_child_nodes(around):
                    yield f"{path.name}:{getattr(node, 'lineno', 0)}", around, node

    def calls(self, node, names):
        """Whether the node is a call of one of these builtins."""
        return isinstance(node, ast.Call) and isinstance(node.func, ast.Name) and node.func.id in names

    def test_where_sets_stand(self):
        """A set is sorted or measured without keywords, compared, asked, or kept by a variable (L24)."""
        for place, around, node in self.parents():
            if isinstance(node, (ast.Set, ast.SetComp)) or self.calls(node, {"set"}):
                direct = self.calls(around, {"sorted", "len"}) and not around.keywords
                self.assertTrue(direct or isinstance(around, (ast.Compare, ast.Assign)), place)

    def test_where_ranges_and_zips_stand(self):
        """What is iterated at once is not kept, passed on or asked by "in" (L23)."""
        takers = {"list", "tuple", "dict", "sorted", "sum", "any", "all", "enumerate", "zip", "min", "max", "len"}
        for place, around, node in self.parents():
            views = isinstance(node, ast.Call) and isinstance(node.func, ast.Attribute)
            if views and node.func.attr in ("items", "keys", "values") or self.calls(
                    node, {"zip", "enumerate", "reversed", "range", "map"}):
                loop = isinstance(around, (ast.For, ast.comprehension)) and around.iter is node
                plain = self.calls(node, {"range"}) and (
                    isinstance(around, ast.Assign) or self.calls(around, {"reversed"}))
                self.assertTrue(loop or plain or self.calls(around, takers), place)

    def test_where_generator_expressions_stand(self):
        """They stand directly in a call that uses them up, beside nothing but names and literals (L7)."""
        for place, around, node in self.parents():
            if isinstance(node, ast.GeneratorExp):
                self.assertTrue(self.calls(around, {"list", "tuple", "dict", "sorted", "sum", "min", "max", "any",
                                                    "all"}), place)
                self.assertTrue(all(isinstance(item.value, (ast.Name, ast.Constant)) for item in around.keywords), place)

    def test_where_products_stand(self):
        """They are iterated at once, but by no generator expression (L2)."""
        takers = {"list", "tuple", "sorted", "sum", "min", "max", "any", "all"}
        generators = [item for _, _, node in self.walk() if isinstance(node, ast.GeneratorExp)
                      for item in ast.walk(node)]
        for place, around, node in self.parents():
            if self.calls(node, {"product", "combinations", "permutations"}):
                loop = isinstance(around, (ast.For, ast.comprehension)) and around.iter is node
                self.assertTrue(loop or self.calls(around, takers), place)
                self.assertNotIn(ast.dump(node), [ast.dump(item) for item in generators], place)
                self.assertTrue(all(isinstance(item, (ast.Name, ast.Constant)) for item in node.args), place)

    def test_what_a_loop_goes_over_stays(self):
        """Nothing that a loop or a comprehension iterates over by its name is changed in it (L23)."""
        changing = {"append", "clear", "extend", "insert", "pop", "remove", "reverse", "setdefault", "update", "sort"}
        for name, line, loop in self.walk():
            if not isinstance(loop, ast.For):
                continue
            over = {ast.unparse(item) for item in ast.walk(loop.iter) if isinstance(item, (ast.Name, ast.Attribute))}
            for node in [item for part in loop.body for item in ast.walk(part)]:
                if isinstance(node, ast.Call) and isinstance(node.func, ast.Attribute) and node.func.attr in changing:
                    self.assertNotIn(ast.unparse(node.func.value), over, (name, node.lineno))
                if isinstance(node, ast.Subscript) and not isinstance(node.ctx, ast.Load):
                    self.assertNotIn(ast.unparse(node.value), over, (name, node.lineno))

    def test_kept_sets(self):
        """A set that a variable keeps is only asked, measured, sorted and added to (L24)."""
        for path, tree in files():
            for function in [node for node in ast.walk(tree) if isinstance(node, ast.FunctionDef)]:
                self.check_kept_sets(path, function)

    def check_kept_sets(self, path, function):
        kept = [node.targets[0].id for node in ast.walk(function) if isinstance(node, ast.Assign)
                and (isinstance(node.value, (ast.Set, ast.SetComp)) or isinstance(node.value, ast.Call)
                     and isinstance(node.value.func, ast.Name) and node.value.func.id == "set")]
        self.assertEqual(len(kept), len(set(kept)))
        for node in ast.walk(function):
            heads = [node.iter] if isinstance(node, (ast.For, ast.comprehension)) else []
            heads += [node.value] if isinstance(node, ast.Return) else []
            for head in heads:
                self.assertFalse(isinstance(head, ast.Name) and head.id in kept, (path, function.name))
                self.assertNotIsInstance(head, (ast.Set, ast.SetComp), (path, function.name))


if __name__ == "__main__":
    unittest.main()
