"""Checks those rules of the Python subset that are easily broken by oversight; the whole of it is told elsewhere."""

import ast
import builtins
import io
import pathlib
import re
import tokenize
import unittest

import onebasis

FOLDER = pathlib.Path(onebasis.__file__).parent
LIBRARY = {"heapq": ["heappush", "heappop"], "math": ["gcd", "comb"], "itertools": ["combinations", "permutations"]}
BUILTINS = """len range enumerate zip min max sum abs sorted reversed int str bool list tuple dict set isinstance ord repr
any all divmod super ValueError KeyError""".split()
METHODS = """append clear copy count endswith extend find get index insert isdigit islower items join keys lower pop remove
replace reverse rfind setdefault split startswith strip update upper values bit_length""".split()
NAMES = """register mro elements open input law version_info with_traceback add_note attrgetter breakpoint builtins
compile copyright credits delattr dir eval exec exit gc globals help id importlib license locals methodcaller os quit
vars sys hash next map round print""".split()
WORDS = """type typing typing_extensions enum Enum IntEnum StrEnum Flag IntFlag Generic Protocol ABC ABCMeta namedtuple
NamedTuple TypedDict TYPE_CHECKING abstractmethod _wall _WallAttr""".split()
ONCE = "range zip enumerate reversed combinations permutations".split()
VIEWS = "items keys values".split()
TAKERS = "list tuple sorted sum any all".split()
BARRED = (ast.AsyncFunctionDef, ast.Global, ast.GeneratorExp, ast.Yield, ast.YieldFrom, ast.Await, ast.AsyncFor,
          ast.AsyncWith, ast.Div, ast.MatMult, ast.Import, ast.AnnAssign)

# Rows of a function of a, d and k, which hand on what is to be iterated on the spot, and which do not.
BAD_ROWS = """g(range(k))
g(a, range(k))
g(zip(a, d))
g(enumerate(a))
g(reversed(a))
g(d.items())
g(d.keys())
g(d.values())
g(rows=range(k))
a.g(range(k))
a.extend(range(k))
a.g(d.items())
g(combinations(a, k))
g([range(k)])
return range(k)
return (d.items(), k)
a.rows = range(k)
a[k] = range(k)
rows = zip(a, d)
rows = d.values()
rows = range(k); g(rows)
rows = range(k); return rows
rows = range(k); rows = list(a)
rows = range(k); other = rows
rows = range(k); return lambda n: n in rows
rows = range(k) if a else a
return max(range(k), key=g)
return min(a, d.values())
return set(d.values())
return len(zip(a, d))
return len(d.values())
return reversed(a)
return list(reversed(d.items()))
return range(k) == a
return k in d.items()
return k in range(k) == a
return [x for x in a if g(range(x))]
return k.join(d.values())
return list(zip(a, range(k)))""".splitlines()
GOOD_ROWS = """g(list(range(k)))
g(tuple(zip(a, d)))
g(list(d.items()), list(d.keys()), list(d.values()))
g([x for x in range(k)])
g([x for x, _ in zip(a, d)], [x for x in reversed(a)])
a.extend(list(range(k)))
return sorted(range(k), key=g)
return sum(d.values()) + min(d.values()) + max(range(k), default=0)
return list(reversed(range(k)))
return list(enumerate(zip(a, d)))
return dict(zip(a, d))
return ", ".join(d.keys())
return k in range(k) and k not in d.keys()
return len(range(k)) + len(d.items())
return [x for x in combinations(range(k), 2)]
for x, y in d.items(): g(x, y)
rows = range(k); return [x for x in rows if x in rows]
rows = range(k); return rows[0] + len(rows) + sum(rows)""".splitlines()


def sources():
    return sorted(FOLDER.glob("*.py"))


def trees():
    return [(path.name, ast.parse(path.read_text())) for path in sources()]


def bound_names(tree):
    """What module-level statements bind: imports, functions, classes, and plain names."""
    found = []
    for node in tree.body:
        if isinstance(node, ast.ImportFrom):
            found += [alias.asname or alias.name for alias in node.names]
        elif isinstance(node, (ast.FunctionDef, ast.ClassDef)):
            found.append(node.name)
        elif isinstance(node, ast.Assign):
            found += [target.id for target in node.targets]
    return found


def local_names(tree):
    """Parameters and names that are assigned anywhere in functions, with their lines."""
    found = [(node.arg, node.lineno) for node in ast.walk(tree) if isinstance(node, ast.arg)]
    return found + [(node.id, node.lineno) for node in ast.walk(tree)
                    if isinstance(node, ast.Name) and isinstance(node.ctx, ast.Store)]


def parents(tree):
    """For each node what it stands directly in."""
    return {child: node for node in ast.walk(tree) for child in ast.iter_child_nodes(node)}


def once_word(node):
    """The word of a call whose answer is iterated at once; None for all else."""
    if isinstance(node, ast.Call) and isinstance(node.func, ast.Name) and node.func.id in ONCE:
        return node.func.id
    if isinstance(node, ast.Call) and isinstance(node.func, ast.Attribute) and node.func.attr in VIEWS:
        return node.func.attr
    return None


def is_iterated(word, node, where):
    """Whether what this node gives is iterated where it stands, as the calls with this word are."""
    if isinstance(where, (ast.For, ast.comprehension)):
        return where.iter is node
    if isinstance(where, ast.Compare):
        # Beside others there would be a comparison with it, too.
        return len(where.ops) == 1 and isinstance(where.ops[0], (ast.In, ast.NotIn)) and word in ("range", "keys")
    if not isinstance(where, ast.Call) or node not in where.args[:1]:
        return False
    if isinstance(where.func, ast.Attribute):
        return where.func.attr == "join" and isinstance(where.func.value, ast.Constant)
    taker = getattr(where.func, "id", None)
    if taker in ("min", "max"):
        return len(where.args) == 1 and [key.arg for key in where.keywords] in ([], ["default"])
    if word in ("combinations", "permutations"):
        return taker in TAKERS and not where.keywords
    takers = {"range": ["len", "reversed", "combinations", "permutations"],
              "zip": ["combinations", "permutations"], "items": ["len", "combinations", "permutations"]}
    return taker in TAKERS + ["dict", "enumerate", "zip"] + takers.get(word, [])


def is_kept_range(function, node, above):
    """Whether this range is kept by a plain local name, once, that is read only where it is iterated, asked or indexed."""
    where = above[node]
    if not isinstance(where, ast.Assign) or len(where.targets) != 1 or not isinstance(where.targets[0], ast.Name):
        return False
    uses = [use for use in ast.walk(function) if isinstance(use, ast.Name) and use.id == where.targets[0].id]
    nested = [inner for inner in ast.walk(function) if isinstance(inner, (ast.FunctionDef, ast.Lambda))]
    inside = [use for inner in nested if inner is not function for use in ast.walk(inner)]
    if [use for use in uses if not isinstance(use.ctx, ast.Load)] != where.targets or any(use in inside for use in uses):
        return False
    reads = [(use, above[use]) for use in uses if use not in where.targets]
    return all(is_iterated("range", use, at) or isinstance(at, ast.Subscript) and at.value is use for use, at in reads)


def handed_on(tree):
    """The rows of the ranges, zips, views and their kin that are not iterated on the spot."""
    above = parents(tree)
    found = []
    for function in [node for node in ast.walk(tree) if isinstance(node, ast.FunctionDef)]:
        for node in ast.walk(function):
            word = once_word(node)
            if word and not is_iterated(word, node, above[node]):
                if word != "range" or not is_kept_range(function, node, above):
                    found.append(node.lineno)
    return sorted(found)


class Language(unittest.TestCase):
    def test_files(self):
        self.assertLessEqual(len(sources()), 100)
        self.assertEqual([path.name for path in FOLDER.iterdir() if path.suffix != ".py" and path.name != "__pycache__"], [])
        for path in sources():
            text = path.read_text()
            self.assertTrue(text.isascii() and "\t" not in text and "\r" not in text, path.name)
            self.assertLessEqual(len(text.splitlines()), 399, path.name)
            for number, row in enumerate(text.splitlines()):
                self.assertLessEqual(len(row), 120, (path.name, number + 1))

    def test_size_of_functions(self):
        for name, tree in trees():
            for node in ast.walk(tree):
                if isinstance(node, ast.FunctionDef):
                    self.assertLessEqual(node.end_lineno - node.lineno + 1, 40, (name, node.name))
                    self.assertEqual(node.decorator_list, [], (name, node.name))

    def test_module_level(self):
        for name, tree in trees():
            ahead = True
            for node in tree.body:
                if isinstance(node, ast.Expr):
                    self.assertIsInstance(node.value, ast.Constant, (name, node.lineno))
                elif isinstance(node, ast.ImportFrom):
                    self.assertTrue(ahead, (name, node.lineno))
                else:
                    ahead = False
                    self.assertIsInstance(node, (ast.FunctionDef, ast.ClassDef, ast.Assign), (name, node.lineno))
            bound = bound_names(tree)
            self.assertEqual(len(bound), len(set(bound)), name)

    def test_imports(self):
        own = {path.stem: bound_names(ast.parse(path.read_text())) for path in sources()}
        needs = {stem: [] for stem in own}
        for name, tree in trees():
            used = {node.id for node in ast.walk(tree) if isinstance(node, ast.Name)}
            for node in ast.walk(tree):
                if isinstance(node, ast.ImportFrom):
                    self.assertEqual(node.level, 0)
                    for alias in node.names:
                        self.assertIn(alias.name, used, (name, "is not used"))
                        self.assertIsNone(alias.asname, (name, alias.name))
                    if node.module in LIBRARY:
                        self.assertTrue({alias.name for alias in node.names} <= set(LIBRARY[node.module]), name)
                        continue
                    head, stem = node.module.split(".")
                    self.assertEqual(head, "onebasis")
                    needs[name[:-3]].append(stem)
                    defined = {n.name for n in ast.parse((FOLDER / (stem + ".py")).read_text()).body
                               if isinstance(n, (ast.FunctionDef, ast.ClassDef))}
                    for alias in node.names:
                        self.assertTrue(alias.name in defined or alias.name.isupper() and alias.name in own[stem],
                                        (name, alias.name))
        while needs:
            ready = [stem for stem in needs if not [other for other in needs[stem] if other in needs]]
            self.assertTrue(ready, ("files import one another", sorted(needs)))
            needs = {stem: needs[stem] for stem in needs if stem not in ready}

    def test_kinds_of_code(self):
        for name, tree in trees():
            for node in ast.walk(tree):
                where = (name, getattr(node, "lineno", None))
                self.assertNotIsInstance(node, BARRED, where)
                if isinstance(node, ast.Constant):
                    self.assertNotIsInstance(node.value, (float, complex), where)
                if isinstance(node, ast.BinOp) and isinstance(node.op, ast.Pow):
                    self.assertIsInstance(node.right, ast.Constant, where)
                if isinstance(node, ast.Compare) and any(isinstance(op, (ast.Is, ast.IsNot)) for op in node.ops):
                    self.assertIsInstance(node.comparators[0], ast.Constant, where)
                if isinstance(node, ast.Starred) and isinstance(node.ctx, ast.Load):
                    self.assertIsInstance(node.value, ast.Name, where)
                if isinstance(node, ast.keyword):
                    self.assertIsNotNone(node.arg, where)

    def test_strings(self):
        for name, tree in trees():
            for node in ast.walk(tree):
                if isinstance(node, ast.Constant) and isinstance(node.value, str):
                    self.assertNotIn("%", node.value, (name, node.lineno))

    def test_names(self):
        for name, tree in trees():
            barred = [n for n in bound_names(tree) if n not in [f.name for f in tree.body if isinstance(f, ast.FunctionDef)]
                      and not n.isupper()]
            for word, row in local_names(tree):
                self.assertNotIn(word, dir(builtins), (name, row))
                self.assertNotIn(word, NAMES, (name, row))
                self.assertTrue(re.fullmatch("_|[A-Za-z][A-Za-z0-9_]*", word), (name, row))
                self.assertNotIn(word, barred, (name, row))
            for node in ast.walk(tree):
                if isinstance(node, (ast.FunctionDef, ast.ClassDef)):
                    self.assertNotIn(node.name, dir(builtins) + NAMES, name)
                if isinstance(node, ast.Name) and isinstance(node.ctx, ast.Load) and node.id in dir(builtins):
                    self.assertIn(node.id, BUILTINS, (name, node.lineno))

    def test_methods(self):
        own = {f.name for _, tree in trees() for c in tree.body if isinstance(c, ast.ClassDef) for f in c.body
               if isinstance(f, ast.FunctionDef)}
        for name, tree in trees():
            for node in ast.walk(tree):
                if isinstance(node, ast.Call) and isinstance(node.func, ast.Attribute):
                    self.assertIn(node.func.attr, METHODS + sorted(own), (name, node.lineno))

    def test_sets_are_not_stored(self):
        for name, tree in trees():
            for node in ast.walk(tree):
                if isinstance(node, (ast.Assign, ast.Return, ast.For, ast.comprehension)):
                    thing = node.iter if isinstance(node, (ast.For, ast.comprehension)) else node.value
                    called = isinstance(thing, ast.Call) and isinstance(thing.func, ast.Name) and thing.func.id
                    self.assertNotIn(called, ("set", "frozenset"), (name, getattr(node, "lineno", None)))
                    self.assertNotIsInstance(thing, (ast.Set, ast.SetComp), (name, getattr(node, "lineno", None)))
                if isinstance(node, ast.Assign) and isinstance(node.value, ast.Call):
                    kept = isinstance(node.value.func, ast.Name) and node.value.func.id
                    self.assertNotIn(kept, ("zip", "enumerate", "reversed", "combinations", "permutations"), name)

    def test_tables_are_only_read(self):
        tables = {node.targets[0].id for _, tree in trees() for node in tree.body
                  if isinstance(node, ast.Assign) and isinstance(node.value, (ast.List, ast.Dict))}
        for name, tree in trees():
            above = parents(tree)
            for node in ast.walk(tree):
                if isinstance(node, ast.Name) and isinstance(node.ctx, ast.Load) and node.id in tables:
                    # An item, a test with in, or a method that reads; not an argument, and not another name.
                    where = above[node]
                    read = isinstance(where, ast.Subscript) and where.value == node and isinstance(where.ctx, ast.Load)
                    read = read or isinstance(where, ast.Attribute) and where.attr in ("get", "items", "keys", "values")
                    read = read or isinstance(where, ast.Compare) and isinstance(where.ops[0], (ast.In, ast.NotIn))
                    self.assertTrue(read, (name, node.lineno, node.id))

    def test_iterated_at_once(self):
        for name, tree in trees():
            self.assertEqual(handed_on(tree), [], (name, "is handed on"))

    def test_what_is_handed_on(self):
        for text in BAD_ROWS:
            self.assertEqual(handed_on(ast.parse("def f(a, d, k):\n    " + text)), [2], text)
        for text in GOOD_ROWS:
            self.assertEqual(handed_on(ast.parse("def f(a, d, k):\n    " + text)), [], text)

    def test_words(self):
        for path in sources():
            for token in tokenize.generate_tokens(io.StringIO(path.read_text()).readline):
                plain = token.type == tokenize.STRING and token.string.startswith('"""')
                if token.type != tokenize.COMMENT and not plain:
                    for word in re.findall("[A-Za-z_]+", token.string):
                        self.assertNotIn(word, WORDS, (path.name, token.start))
