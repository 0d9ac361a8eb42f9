"""The rules of the language subset that can be seen from the syntax trees of the files."""

import ast
import builtins
import pathlib
import re
import unittest

PACKAGE = pathlib.Path(__file__).resolve().parent.parent / "elsewhere"
FILES = sorted(PACKAGE.glob("**/*.py"))
LIBRARY = {
    "heapq": {"heappush", "heappop", "heapify", "heapreplace", "heappushpop"},
    "math": {"gcd", "lcm", "isqrt", "comb", "perm", "factorial"},
    "itertools": {"product", "combinations", "permutations", "chain", "accumulate", "pairwise", "islice",
                  "zip_longest"},
    "collections": {"defaultdict"},
}
BUILTINS = set(
    "len range enumerate zip min max sum abs sorted reversed int str bool bytes list tuple dict set frozenset "
    "isinstance ord repr any all divmod pow getattr hasattr setattr Exception ValueError TypeError KeyError "
    "IndexError LookupError ZeroDivisionError ArithmeticError OverflowError RuntimeError NotImplementedError "
    "AttributeError StopIteration NotImplemented iter next map super property staticmethod classmethod".split()
)
METHODS = set(
    "append clear copy count endswith extend find get index insert isalnum isalpha isdigit islower isspace isupper "
    "items join keys ljust lower lstrip partition pop remove replace reverse rfind rjust rpartition rsplit rstrip "
    "setdefault split splitlines startswith strip update upper values zfill bit_length add discard sort".split()
)
NOT_ATTRIBUTES = set(
    "items keys values pop update append clear extend insert remove reverse setdefault sort args encode decode hex "
    "fromhex format mro register elements open input law version_info with_traceback add_note".split()
)
NEVER_NAMES = set(
    "register mro elements open input law version_info with_traceback add_note attrgetter breakpoint builtins compile "
    "copyright credits delattr dir eval exec exit gc globals help id importlib license locals methodcaller os quit "
    "type vars sys".split()
)
WORDS = set(
    "type typing typing_extensions enum Enum IntEnum StrEnum Flag IntFlag Generic Protocol ABC ABCMeta namedtuple "
    "NamedTuple TypedDict TYPE_CHECKING abstractmethod dataclass overload contextmanager".split()
)
DUNDERS = set(
    "__init__ __eq__ __repr__ __str__ __len__ __enter__ __exit__ __call__ __iter__".split()
)
VIEWS = ("items", "keys", "values")
WALKS = ("range", "zip", "enumerate", "reversed")
WALKERS = set("list tuple dict sorted sum any all enumerate zip min max".split())
INNER = (ast.FunctionDef, ast.Lambda, ast.GeneratorExp)
FORBIDDEN = (
    ast.Global, ast.AsyncFunctionDef, ast.AsyncFor, ast.AsyncWith, ast.Await, ast.Div, ast.MatMult, ast.Import,
)


def bindings(tree):
    """The names that are bound somewhere below, with the node that binds each."""
    for node in ast.walk(tree):
        if isinstance(node, ast.Name) and isinstance(node.ctx, ast.Store):
            yield node.id, node
        elif isinstance(node, ast.arg):
            yield node.arg, node
        elif isinstance(node, (ast.FunctionDef, ast.ClassDef)):
            yield node.name, node
        elif isinstance(node, ast.ExceptHandler) and node.name:
            yield node.name, node


def top_names(tree):
    found = []
    for node in tree.body:
        if isinstance(node, (ast.FunctionDef, ast.ClassDef)):
            found.append(node.name)
        elif isinstance(node, ast.ImportFrom):
            found += [name.name for name in node.names]
        elif isinstance(node, ast.Assign):
            found += [target.id for target in node.targets]
    return found


def walk_of(node):
    """The word of a range, a zip or a view, with "reversed" and the like, or None for other nodes."""
    if isinstance(node, ast.Call):
        if isinstance(node.func, ast.Name) and node.func.id in WALKS:
            return node.func.id
        if isinstance(node.func, ast.Attribute) and node.func.attr in VIEWS:
            return node.func.attr
    return None


def parents_of(tree):
    return {id(part): node for node in ast.walk(tree) for part in ast.iter_child_nodes(node)}


def is_walked(node, word, parent):
    """Whether a range, a zip or a view, or a name that keeps one, is iterated or asked where it stands."""
    if isinstance(parent, (ast.For, ast.comprehension)):
        return parent.iter is node
    if isinstance(parent, ast.Compare):
        return word in ("range", "keys") and node is not parent.left and all(
            isinstance(sign, (ast.In, ast.NotIn)) for sign in parent.ops)
    if not isinstance(parent, ast.Call) or not parent.args or parent.args[0] is not node:
        return False
    if isinstance(parent.func, ast.Attribute):
        return parent.func.attr == "join" and isinstance(parent.func.value, ast.Constant)
    by = parent.func.id if isinstance(parent.func, ast.Name) else ""
    if by in ("min", "max"):
        return len(parent.args) == 1
    return by in WALKERS or (by == "len" and word in ("range",) + VIEWS) or (by == "reversed" and word == "range")


def kept_by(node, parent):
    """The plain name to which a statement of its own assigns a node, or None."""
    if isinstance(parent, ast.Assign) and parent.value is node and len(parent.targets) == 1:
        target = parent.targets[0]
        return target.id if isinstance(target, ast.Name) else None
    return None


def nodes_of(function):
    """The nodes of a function outside of its nested functions, lambdas and generator expressions, and those inside."""
    own, inside = [], []
    rest = [(part, False) for part in ast.iter_child_nodes(function)]
    while rest:
        node, is_inside = rest.pop()
        (inside if is_inside else own).append(node)
        rest += [(part, is_inside or isinstance(node, INNER)) for part in ast.iter_child_nodes(node)]
    return own, inside


def reads(nodes, name):
    return [node for node in nodes if isinstance(node, ast.Name) and node.id == name and isinstance(node.ctx, ast.Load)]


def kept_faults(function, parents):
    """The places at which a function keeps or uses a range, a zip or a view against rule L23."""
    faults = []
    own, inside = nodes_of(function)
    for call in [node for node in own if walk_of(node)]:
        name = kept_by(call, parents[id(call)])
        if name is None:
            continue
        word = walk_of(call)
        stores = [n for n in own if isinstance(n, ast.Name) and n.id == name and isinstance(n.ctx, ast.Store)]
        if len(stores) > 1:
            faults.append((call.lineno, f"{name} is assigned again"))
        faults += [(n.lineno, f"{name} is read in an inner function") for n in reads(inside, name)]
        for node in reads(own, name):
            parent = parents[id(node)]
            index = isinstance(parent, ast.Subscript) and parent.value is node and word == "range"
            if not index and not is_walked(node, word, parent):
                faults.append((node.lineno, f"{name} is not iterated"))
    return faults


def walk_faults(tree):
    """All faults of a file against rule L23 about ranges, zips and views."""
    parents = parents_of(tree)
    faults = []
    for node in ast.walk(tree):
        if walk_of(node):
            parent = parents[id(node)]
            if not is_walked(node, walk_of(node), parent) and kept_by(node, parent) is None:
                faults.append((node.lineno, f"{ast.unparse(node)} is neither iterated nor kept"))
        if isinstance(node, ast.FunctionDef):
            faults += kept_faults(node, parents)
    return sorted(faults)


class Language(unittest.TestCase):
    @classmethod
    def setUpClass(cls):
        cls.texts = {path: path.read_bytes().decode("utf-8") for path in FILES}
        cls.trees = {path: ast.parse(text) for path, text in cls.texts.items()}

    def each_node(self, *kinds):
        for path, tree in self.trees.items():
            for node in ast.walk(tree):
                if isinstance(node, kinds):
                    yield node, f"{path.name}:{getattr(node, 'lineno', 0)}"

    def test_files(self):
        for path in PACKAGE.iterdir():
            if path.name != "__pycache__":
                self.assertRegex(path.name, r"^[a-z0-9_]+\.py$")
                self.assertNotRegex(path.name, r"^(law_|test)")
                self.assertNotIn(path.stem, NEVER_NAMES | WORDS | set(dir(builtins)))

    def test_sizes_and_characters(self):
        for path, text in self.texts.items():
            lines = text.split("\n")
            self.assertLessEqual(len(lines), 399, path)
            for number, line in enumerate(lines, 1):
                self.assertLessEqual(len(line), 120, f"{path}:{number}")
                self.assertTrue(all(" " <= c <= "~" for c in line), f"{path}:{number}")
                self.assertEqual(line.rstrip(), line, f"{path}:{number}")
        for node, where in self.each_node(ast.FunctionDef):
            self.assertLessEqual(node.end_lineno - node.lineno + 1, 40, where)

    def test_module_level(self):
        kinds = (ast.ImportFrom, ast.FunctionDef, ast.ClassDef, ast.Assign)
        for path, tree in self.trees.items():
            for node in tree.body:
                text = isinstance(node, ast.Expr) and isinstance(node.value, ast.Constant)
                self.assertTrue(text or isinstance(node, kinds), f"{path}:{node.lineno}")
            names = top_names(tree)
            self.assertEqual(sorted(names), sorted(set(names)), path)

    def test_imports(self):
        files = {"elsewhere." + path.stem: path for path in FILES}
        reached = {}
        for path, tree in self.trees.items():
            for node in tree.body:
                if isinstance(node, ast.ImportFrom):
                    names = {name.name for name in node.names}
                    self.assertEqual(node.level, 0, path)
                    self.assertTrue(all(name.asname is None for name in node.names), path)
                    if node.module in LIBRARY:
                        self.assertLessEqual(names, LIBRARY[node.module], path)
                    else:
                        other = self.trees[files[node.module]]
                        defined = set(top_names(other)) - {
                            name.name for n in other.body if isinstance(n, ast.ImportFrom) for name in n.names
                        }
                        self.assertLessEqual(names, defined, path)
                        reached.setdefault(path, []).append(files[node.module])
        done = []
        while len(done) < len(FILES):
            more = [path for path in FILES if path not in done and all(p in done for p in reached.get(path, []))]
            self.assertTrue(more, "files import from each other")
            done += more

    def test_unused_imports_and_names(self):
        for path, tree in self.trees.items():
            used = {node.id for node in ast.walk(tree) if isinstance(node, ast.Name) and isinstance(node.ctx, ast.Load)}
            for node in tree.body:
                if isinstance(node, ast.ImportFrom):
                    for name in node.names:
                        self.assertIn(name.name, used, path)
                elif isinstance(node, ast.FunctionDef) and node.name.startswith("_"):
                    self.assertIn(node.name, used, path)

    def test_statements_and_values(self):
        for node, where in self.each_node(*FORBIDDEN):
            self.fail(f"{where}: {type(node).__name__}")
        for node, where in self.each_node(ast.Constant):
            self.assertNotIsInstance(node.value, (float, complex), where)
            if isinstance(node.value, str):
                self.assertNotIn("%", node.value, where)
                self.assertNotIn("__", node.value, where)
        for node, where in self.each_node(ast.Compare):
            for sign, other in zip(node.ops, node.comparators):
                if isinstance(sign, (ast.Is, ast.IsNot)):
                    self.assertIsInstance(other, ast.Constant, where)
        for node, where in self.each_node(ast.BinOp):
            if isinstance(node.op, ast.Pow):
                self.assertIsInstance(node.right, ast.Constant, where)
        for node, where in self.each_node(ast.ExceptHandler):
            self.assertIsNotNone(node.type, where)
        for node, where in self.each_node(ast.FunctionDef, ast.ClassDef):
            for decorator in node.decorator_list:
                self.assertIn(ast.unparse(decorator), ("property", "staticmethod", "classmethod"), where)

    def test_names(self):
        standard = set(dir(builtins)) - {"_"}
        for path, tree in self.trees.items():
            known = {name.name for n in tree.body if isinstance(n, ast.ImportFrom) for name in n.names}
            known |= {n.name for n in tree.body if isinstance(n, ast.ClassDef)}
            methods = {id(n) for c in ast.walk(tree) if isinstance(c, ast.ClassDef) for n in c.body}
            for name, node in bindings(tree):
                where = f"{path}:{node.lineno}: {name}"
                self.assertRegex(name, r"^(_|_?[A-Za-z][A-Za-z0-9_]*|__[a-z]+__)$", where)
                if id(node) not in methods:
                    self.assertNotIn(name, standard, where)
                    self.assertFalse(name in known and node not in tree.body, where)
                elif name.startswith("__"):
                    self.assertIn(name, DUNDERS, where)
                self.assertNotIn(name, NEVER_NAMES, where)
            for node in ast.walk(tree):
                if isinstance(node, ast.Name) and isinstance(node.ctx, ast.Load):
                    self.assertTrue(node.id not in standard or node.id in BUILTINS, f"{path}:{node.lineno}")
                    self.assertNotEqual(node.id, "_", f"{path}:{node.lineno}")

    def test_methods_and_attributes(self):
        own = {node.name for tree in self.trees.values() for c in ast.walk(tree) if isinstance(c, ast.ClassDef)
               for node in c.body if isinstance(node, ast.FunctionDef)}
        stored = {node.attr for node, _ in self.each_node(ast.Attribute) if isinstance(node.ctx, ast.Store)}
        self.assertFalse(stored & NOT_ATTRIBUTES)
        called = {id(node.func) for node, _ in self.each_node(ast.Call)}
        for node, where in self.each_node(ast.Attribute):
            if id(node) in called:
                self.assertIn(node.attr, METHODS | own, where)
            elif isinstance(node.ctx, ast.Load):
                self.assertIn(node.attr, stored, where)

    def test_no_name_is_a_method_and_an_attribute(self):
        own = {node.name for tree in self.trees.values() for c in ast.walk(tree) if isinstance(c, ast.ClassDef)
               for node in c.body if isinstance(node, ast.FunctionDef)}
        stored = {node.attr for node, _ in self.each_node(ast.Attribute) if isinstance(node.ctx, ast.Store)}
        self.assertFalse(own & stored)

    def test_tables_are_not_passed_on(self):
        for path, tree in self.trees.items():
            tables = {node.targets[0].id for node in tree.body if isinstance(node, ast.Assign)
                      and isinstance(node.value, (ast.Dict, ast.List))}
            for node in ast.walk(tree):
                given = []
                if isinstance(node, ast.Call) and not (isinstance(node.func, ast.Name) and node.func.id in BUILTINS):
                    given = node.args
                elif isinstance(node, (ast.Return, ast.Assign)):
                    given = [node.value]
                for value in given:
                    self.assertFalse(isinstance(value, ast.Name) and value.id in tables, f"{path}:{node.lineno}")

    def test_attributes_are_assigned_through_local_names(self):
        for node, where in self.each_node(ast.Attribute):
            if isinstance(node.ctx, ast.Store):
                self.assertIsInstance(node.value, ast.Name, where)

    def test_words(self):
        for path, tree in self.trees.items():
            names = {node.id for node in ast.walk(tree) if isinstance(node, ast.Name)}
            names |= {node.attr for node in ast.walk(tree) if isinstance(node, ast.Attribute)}
            names |= {name for name, _ in bindings(tree)}
            self.assertFalse(names & WORDS, path)
            docs = {id(node.body[0].value) for node in ast.walk(tree)
                    if isinstance(node, (ast.Module, ast.ClassDef, ast.FunctionDef))
                    and node.body and isinstance(node.body[0], ast.Expr)}
            for node in ast.walk(tree):
                if isinstance(node, ast.Constant) and isinstance(node.value, str) and id(node) not in docs:
                    self.assertFalse(set(re.findall(r"\w+", node.value)) & WORDS, f"{path}:{node.lineno}")

    def test_sets_are_not_iterated(self):
        def is_set(node):
            return isinstance(node, (ast.Set, ast.SetComp)) or (
                isinstance(node, ast.Call) and isinstance(node.func, ast.Name) and node.func.id == "set")
        for node, where in self.each_node(ast.For, ast.comprehension):
            self.assertFalse(is_set(node.iter), where)
        for node, where in self.each_node(ast.Return):
            self.assertFalse(node.value is not None and is_set(node.value), where)

    def test_ranges_zips_and_views(self):
        for path, tree in self.trees.items():
            self.assertEqual(walk_faults(tree), [], path)

    def test_ranges_zips_and_views_of_samples(self):
        wrong = (
            "    ks = range(n)\n    def g():\n        return [0 for _ in ks]\n    return g",
            "    ks = range(n)\n    return lambda: [k for k in ks]",
            "    ks = range(n)\n    return sum(k for k in ks)",
            "    ks = zip(n, n)\n    def g():\n        for k in ks:\n            h(k)\n    g()",
            "    ks = enumerate(n)\n    def g():\n        def h():\n            return list(ks)\n        return h",
            "    ks = reversed(n)\n    return lambda: list(ks)",
            "    ks = n.items()\n    return any(k in m for k, m in ks)",
            "    ks = n.keys()\n    def g():\n        return sorted(ks)\n    return g()",
            "    ks = n.values()\n    return lambda k: k in ks",
            "    ks = range(n)\n    return ks",
            "    ks = range(n)\n    return g(ks)",
            "    ks = range(n)\n    return [ks]",
            "    ks = range(n)\n    if ks:\n        return 1",
            "    ks = range(n)\n    return ks == n",
            "    ks = range(n)\n    ks = range(3)\n    return list(ks)",
            "    ks: object = range(n)\n    return list(ks)",
            "    ks = n.items()\n    return ks[0]",
            "    return range(n)",
            "    return g(n.keys())",
            "    n.ks = range(3)",
            "    return range(n) if n else []",
            "    return max(range(n), 3)",
        )
        for body in wrong:
            self.assertTrue(walk_faults(ast.parse("def f(n):\n" + body)), body)
        right = (
            "    ks = n + 1\n    def g():\n        return [False] * ks\n    return g",
            "    ks = list(range(n))\n    def g():\n        return [0 for _ in ks]\n    return g",
            "    def g():\n        ks = range(n)\n        return [ks[0], len(ks)] + [k for k in ks]\n    return g",
            "    ks = range(n)\n    for k in ks:\n        if k + 1 in ks:\n            return list(reversed(ks))",
            "    ks = zip(n, n)\n    return dict(ks)",
            "    return len(n.items()) + max(range(n)) + len(', '.join(n.keys()))",
        )
        for body in right:
            self.assertEqual(walk_faults(ast.parse("def f(n):\n" + body)), [], body)

    def test_stars_and_views(self):
        for node, where in self.each_node(ast.Set):
            self.assertFalse(any(isinstance(item, ast.Starred) for item in node.elts), where)
        for node, where in self.each_node(ast.Call):
            if isinstance(node.func, ast.Attribute) and node.func.attr in ("keys", "values", "items"):
                self.assertFalse(node.args or node.keywords, where)
            if isinstance(node.func, ast.Attribute) and node.func.attr in METHODS:
                self.assertFalse([word for word in node.keywords if node.func.attr != "sort"], where)

    def test_literals_at_module_level(self):
        for path, tree in self.trees.items():
            functions = {node.name for node in tree.body if isinstance(node, ast.FunctionDef)}
            for node in tree.body:
                if isinstance(node, ast.Assign):
                    names = {n.id for n in ast.walk(node.value) if isinstance(n, ast.Name)}
                    self.assertLessEqual(names, functions, f"{path}:{node.lineno}")

    def test_calls_of_one_line_lambdas(self):
        for path, tree in self.trees.items():
            lines = [node.lineno for node in ast.walk(tree) if isinstance(node, ast.Lambda)]
            self.assertEqual(len(lines), len(set(lines)), path)
