"""Checks those rules of the Python subset that are easily broken by oversight; the whole of it is told elsewhere."""

import ast
import builtins
import io
import pathlib
import re
import tokenize
import unittest

import onebasis

FOLDER = pathlib.Path(onebasis.__file__).parent
LIBRARY = {"heapq": ["heappush", "heappop"], "math": ["gcd", "comb"], "itertools": ["combinations", "permutations"]}
BUILTINS = """len range enumerate zip min max sum abs sorted reversed int str bool list tuple dict set isinstance ord repr
any all divmod super ValueError KeyError""".split()
METHODS = """append clear copy count endswith extend find get index insert isdigit islower items join keys lower pop remove
replace reverse rfind setdefault split startswith strip update upper values bit_length""".split()
NAMES = """register mro elements open input law version_info with_traceback add_note attrgetter breakpoint builtins
compile copyright credits delattr dir eval exec exit gc globals help id importlib license locals methodcaller os quit
vars sys hash next map round print""".split()
WORDS = """type typing typing_extensions enum Enum IntEnum StrEnum Flag IntFlag Generic Protocol ABC ABCMeta namedtuple
NamedTuple TypedDict TYPE_CHECKING abstractmethod _wall _WallAttr""".split()
BARRED = (ast.AsyncFunctionDef, ast.Global, ast.GeneratorExp, ast.Yield, ast.YieldFrom, ast.Await, ast.AsyncFor,
          ast.AsyncWith, ast.Div, ast.MatMult, ast.Import, ast.AnnAssign)


def sources():
    return sorted(FOLDER.glob("*.py"))


def trees():
    return [(path.name, ast.parse(path.read_text())) for path in sources()]


def bound_names(tree):
    """What module-level statements bind: imports, functions, classes, and plain names."""
    found = []
    for node in tree.body:
        if isinstance(node, ast.ImportFrom):
            found += [alias.asname or alias.name for alias in node.names]
        elif isinstance(node, (ast.FunctionDef, ast.ClassDef)):
            found.append(node.name)
        elif isinstance(node, ast.Assign):
            found += [target.id for target in node.targets]
    return found


def local_names(tree):
    """Parameters and names that are assigned anywhere in functions, with their lines."""
    found = [(node.arg, node.lineno) for node in ast.walk(tree) if isinstance(node, ast.arg)]
    return found + [(node.id, node.lineno) for node in ast.walk(tree)
                    if isinstance(node, ast.Name) and isinstance(node.ctx, ast.Store)]


class Language(unittest.TestCase):
    def test_files(self):
        self.assertLessEqual(len(sources()), 100)
        self.assertEqual([path.name for path in FOLDER.iterdir() if path.suffix != ".py" and path.name != "__pycache__"], [])
        for path in sources():
            text = path.read_text()
            self.assertTrue(text.isascii() and "\t" not in text and "\r" not in text, path.name)
            self.assertLessEqual(len(text.splitlines()), 399, path.name)
            for number, row in enumerate(text.splitlines()):
                self.assertLessEqual(len(row), 120, (path.name, number + 1))

    def test_size_of_functions(self):
        for name, tree in trees():
            for node in ast.walk(tree):
                if isinstance(node, ast.FunctionDef):
                    self.assertLessEqual(node.end_lineno - node.lineno + 1, 40, (name, node.name))
                    self.assertEqual(node.decorator_list, [], (name, node.name))

    def test_module_level(self):
        for name, tree in trees():
            ahead = True
            for node in tree.body:
                if isinstance(node, ast.Expr):
                    self.assertIsInstance(node.value, ast.Constant, (name, node.lineno))
                elif isinstance(node, ast.ImportFrom):
                    self.assertTrue(ahead, (name, node.lineno))
                else:
                    ahead = False
                    self.assertIsInstance(node, (ast.FunctionDef, ast.ClassDef, ast.Assign), (name, node.lineno))
            bound = bound_names(tree)
            self.assertEqual(len(bound), len(set(bound)), name)

    def test_imports(self):
        own = {path.stem: bound_names(ast.parse(path.read_text())) for path in sources()}
        needs = {stem: [] for stem in own}
        for name, tree in trees():
            used = {node.id for node in ast.walk(tree) if isinstance(node, ast.Name)}
            for node in ast.walk(tree):
                if isinstance(node, ast.ImportFrom):
                    self.assertEqual(node.level, 0)
                    for alias in node.names:
                        self.assertIn(alias.name, used, (name, "is not used"))
                        self.assertIsNone(alias.asname, (name, alias.name))
                    if node.module in LIBRARY:
                        self.assertTrue({alias.name for alias in node.names} <= set(LIBRARY[node.module]), name)
                        continue
                    head, stem = node.module.split(".")
                    self.assertEqual(head, "onebasis")
                    needs[name[:-3]].append(stem)
                    defined = {n.name for n in ast.parse((FOLDER / (stem + ".py")).read_text()).body
                               if isinstance(n, (ast.FunctionDef, ast.ClassDef))}
                    for alias in node.names:
                        self.assertTrue(alias.name in defined or alias.name.isupper() and alias.name in own[stem],
                                        (name, alias.name))
        while needs:
            ready = [stem for stem in needs if not [other for other in needs[stem] if other in needs]]
            self.assertTrue(ready, ("files import one another", sorted(needs)))
            needs = {stem: needs[stem] for stem in needs if stem not in ready}

    def test_kinds_of_code(self):
        for name, tree in trees():
            for node in ast.walk(tree):
                where = (name, getattr(node, "lineno", None))
                self.assertNotIsInstance(node, BARRED, where)
                if isinstance(node, ast.Constant):
                    self.assertNotIsInstance(node.value, (float, complex), where)
                if isinstance(node, ast.BinOp) and isinstance(node.op, ast.Pow):
                    self.assertIsInstance(node.right, ast.Constant, where)
                if isinstance(node, ast.Compare) and any(isinstance(op, (ast.Is, ast.IsNot)) for op in node.ops):
                    self.assertIsInstance(node.comparators[0], ast.Constant, where)
                if isinstance(node, ast.Starred) and isinstance(node.ctx, ast.Load):
                    self.assertIsInstance(node.value, ast.Name, where)
                if isinstance(node, ast.keyword):
                    self.assertIsNotNone(node.arg, where)

    def test_strings(self):
        for name, tree in trees():
            for node in ast.walk(tree):
                if isinstance(node, ast.Constant) and isinstance(node.value, str):
                    self.assertNotIn("%", node.value, (name, node.lineno))

    def test_names(self):
        for name, tree in trees():
            barred = [n for n in bound_names(tree) if n not in [f.name for f in tree.body if isinstance(f, ast.FunctionDef)]
                      and not n.isupper()]
            for word, row in local_names(tree):
                self.assertNotIn(word, dir(builtins), (name, row))
                self.assertNotIn(word, NAMES, (name, row))
                self.assertTrue(re.fullmatch("_|[A-Za-z][A-Za-z0-9_]*", word), (name, row))
                self.assertNotIn(word, barred, (name, row))
            for node in ast.walk(tree):
                if isinstance(node, (ast.FunctionDef, ast.ClassDef)):
                    self.assertNotIn(node.name, dir(builtins) + NAMES, name)
                if isinstance(node, ast.Name) and isinstance(node.ctx, ast.Load) and node.id in dir(builtins):
                    self.assertIn(node.id, BUILTINS, (name, node.lineno))

    def test_methods(self):
        own = {f.name for _, tree in trees() for c in tree.body if isinstance(c, ast.ClassDef) for f in c.body
               if isinstance(f, ast.FunctionDef)}
        for name, tree in trees():
            for node in ast.walk(tree):
                if isinstance(node, ast.Call) and isinstance(node.func, ast.Attribute):
                    self.assertIn(node.func.attr, METHODS + sorted(own), (name, node.lineno))

    def test_sets_are_not_stored(self):
        for name, tree in trees():
            for node in ast.walk(tree):
                if isinstance(node, (ast.Assign, ast.Return, ast.For, ast.comprehension)):
                    thing = node.iter if isinstance(node, (ast.For, ast.comprehension)) else node.value
                    called = isinstance(thing, ast.Call) and isinstance(thing.func, ast.Name) and thing.func.id
                    self.assertNotIn(called, ("set", "frozenset"), (name, getattr(node, "lineno", None)))
                    self.assertNotIsInstance(thing, (ast.Set, ast.SetComp), (name, getattr(node, "lineno", None)))
                if isinstance(node, ast.Assign) and isinstance(node.value, ast.Call):
                    kept = isinstance(node.value.func, ast.Name) and node.value.func.id
                    self.assertNotIn(kept, ("zip", "enumerate", "reversed", "combinations", "permutations"), name)

    def test_tables_are_only_read(self):
        tables = {node.targets[0].id for _, tree in trees() for node in tree.body
                  if isinstance(node, ast.Assign) and isinstance(node.value, (ast.List, ast.Dict))}
        for name, tree in trees():
            above = {}
            for node in ast.walk(tree):
                for child in ast.iter_child_nodes(node):
                    above[child] = node
            for node in ast.walk(tree):
                if isinstance(node, ast.Name) and isinstance(node.ctx, ast.Load) and node.id in tables:
                    # An item, a test with in, or a method that reads; not an argument, and not another name.
                    where = above[node]
                    read = isinstance(where, ast.Subscript) and where.value == node and isinstance(where.ctx, ast.Load)
                    read = read or isinstance(where, ast.Attribute) and where.attr in ("get", "items", "keys", "values")
                    read = read or isinstance(where, ast.Compare) and isinstance(where.ops[0], (ast.In, ast.NotIn))
                    self.assertTrue(read, (name, node.lineno, node.id))

    def test_words(self):
        for path in sources():
            for token in tokenize.generate_tokens(io.StringIO(path.read_text()).readline):
                plain = token.type == tokenize.STRING and token.string.startswith('"""')
                if token.type != tokenize.COMMENT and not plain:
                    for word in re.findall("[A-Za-z_]+", token.string):
                        self.assertNotIn(word, WORDS, (path.name, token.start))
