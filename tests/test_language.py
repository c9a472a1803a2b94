"""The form of the code: rules of ../shared/LANGUAGE.md that can be looked at one by one."""

import ast
import builtins
import pathlib
import unittest

FOLDER = pathlib.Path(__file__).resolve().parent.parent / "saymakers"
FILES = sorted(FOLDER.glob("*.py"))
TREES = {path.stem: ast.parse(path.read_text()) for path in FILES}
# A doctest may leave its last value under the name _.
NATIVE = set(dir(builtins)) - {"_"}
BUILTINS = set("""len range enumerate zip min max sum abs sorted reversed int str bool list tuple dict set isinstance ord
    repr any all divmod Exception ValueError TypeError KeyError IndexError LookupError""".split())
METHODS = set("""append clear copy count endswith extend find get index insert isalnum isalpha isdigit islower isspace
    isupper items join keys ljust lower lstrip partition pop remove replace reverse rfind rjust rpartition rsplit rstrip
    setdefault split splitlines startswith strip update upper values zfill bit_length""".split())
BARRED = set("""register mro elements open input law version_info with_traceback add_note eval exec exit globals locals
    vars dir id hash iter next map filter object property super type super compile help copyright credits license quit
    getattr setattr hasattr delattr breakpoint gc os sys importlib builtins""".split())
WORDS = set("""type typing typing_extensions enum Enum IntEnum StrEnum Flag IntFlag Generic Protocol ABC ABCMeta
    namedtuple NamedTuple TypedDict TYPE_CHECKING abstractmethod""".split())
STATEMENTS = (ast.Assign, ast.AugAssign, ast.If, ast.While, ast.For, ast.Return, ast.Break, ast.Continue, ast.Pass,
              ast.Raise, ast.Assert, ast.Try, ast.Expr, ast.FunctionDef, ast.ClassDef, ast.ImportFrom)
LIBRARY = {"itertools": {"combinations", "permutations", "product"}}
ITERATORS = {"zip", "enumerate", "reversed", "range", "items", "keys", "values"}
TAKERS = {"list", "tuple", "dict", "sorted", "sum", "any", "all", "enumerate", "zip", "min", "max"}


def nodes(kind):
    """(file, node) for all nodes of a kind."""
    for name, tree in TREES.items():
        for node in ast.walk(tree):
            if isinstance(node, kind):
                yield name, node


def parents(tree):
    """Each node's parent."""
    return {kid: node for node in ast.walk(tree) for kid in ast.iter_child_nodes(node)}


def called(node):
    """The name that a call calls."""
    return node.func.id if isinstance(node.func, ast.Name) else node.func.attr


def bound(tree):
    """All names that functions bind: parameters and targets."""
    for node in ast.walk(tree):
        if isinstance(node, ast.arg):
            yield node.arg
        if isinstance(node, ast.Name) and isinstance(node.ctx, ast.Store):
            yield node.id


class LanguageTest(unittest.TestCase):
    def test_files_and_sizes(self):
        self.assertEqual([path.name for path in FOLDER.iterdir() if path.suffix != ".py" and path.name != "__pycache__"], [])
        for path in FILES:
            text = path.read_text()
            lines = text.split("\n")
            self.assertLessEqual(len(lines), 400, path.name)
            self.assertTrue(all(len(line) <= 120 for line in lines), path.name)
            self.assertTrue(all(sign == "\n" or " " <= sign <= "~" for sign in text), path.name)
            self.assertNotIn(path.stem, NATIVE)
        for name, node in nodes(ast.FunctionDef):
            self.assertLessEqual(node.end_lineno - node.lineno + 1, 40, (name, node.name))

    def test_module_level(self):
        for name, tree in TREES.items():
            names = []
            for node in tree.body:
                self.assertIsInstance(node, (ast.Expr, ast.ImportFrom, ast.FunctionDef, ast.ClassDef, ast.Assign), name)
                if isinstance(node, ast.Assign):
                    names += [target.id for target in node.targets]
                    ast.literal_eval(node.value)
                elif isinstance(node, ast.ImportFrom):
                    names += [alias.name for alias in node.names]
                elif not isinstance(node, ast.Expr):
                    names.append(node.name)
                else:
                    self.assertIsInstance(node.value, ast.Constant)
            self.assertEqual(len(names), len(set(names)), name)
            self.assertTrue(ast.get_docstring(tree), name)

    def test_imports(self):
        needs = {}
        for name, tree in TREES.items():
            needs[name] = set()
            used = {node.id for node in ast.walk(tree) if isinstance(node, ast.Name)}
            for node in ast.walk(tree):
                self.assertNotIsInstance(node, ast.Import)
                if not isinstance(node, ast.ImportFrom):
                    continue
                self.assertIn(node, tree.body)
                self.assertEqual(node.level, 0)
                for alias in node.names:
                    self.assertIsNone(alias.asname)
                    self.assertIn(alias.name, used, (name, alias.name))
                if node.module in LIBRARY:
                    self.assertLessEqual({alias.name for alias in node.names}, LIBRARY[node.module])
                    continue
                package, _, module = node.module.partition(".")
                self.assertEqual(package, "saymakers")
                needs[name].add(module)
                there = {each.name for each in TREES[module].body if isinstance(each, (ast.FunctionDef, ast.ClassDef))}
                there |= {each.targets[0].id for each in TREES[module].body if isinstance(each, ast.Assign)}
                self.assertLessEqual({alias.name for alias in node.names}, there, (name, module))
        done = set()
        while len(done) < len(needs):
            more = {name for name in needs if name not in done and needs[name] <= done}
            self.assertTrue(more, "files that import from each other")
            done |= more

    def test_statements(self):
        for name, node in nodes(ast.stmt):
            self.assertIsInstance(node, STATEMENTS, (name, getattr(node, "lineno", 0)))
        for name, node in nodes((ast.FunctionDef, ast.ClassDef)):
            self.assertEqual(node.decorator_list, [])
        for name, node in nodes(ast.FunctionDef):
            self.assertIsNone(node.returns)
            self.assertTrue(ast.get_docstring(node) or node.name.startswith("__"), (name, node.name))
            self.assertEqual([each for each in ast.walk(node) if isinstance(each, ast.FunctionDef) and each != node], [])
        for name, node in nodes(ast.arg):
            self.assertIsNone(node.annotation)
        for name, node in nodes((ast.Lambda, ast.NamedExpr, ast.Yield, ast.SetComp, ast.GeneratorExp, ast.Div, ast.Set)):
            self.fail((name, node.lineno, type(node).__name__))
        for name, node in nodes(ast.ExceptHandler):
            self.assertTrue(isinstance(node.type, ast.Name) and node.type.id.startswith(("Invalid", "SayError")))
        for name, node in nodes(ast.Raise):
            self.assertIsInstance(node.exc, ast.Call)
        for name, node in nodes(ast.Compare):
            for operator, right in zip(node.ops, node.comparators):
                if isinstance(operator, (ast.Is, ast.IsNot)):
                    self.assertTrue(isinstance(right, ast.Constant) and right.value in (None, True, False))

    def test_names(self):
        for name, tree in TREES.items():
            outer = {alias.name for node in tree.body if isinstance(node, ast.ImportFrom) for alias in node.names}
            outer |= {node.name for node in tree.body if isinstance(node, ast.ClassDef)}
            for word in bound(tree):
                self.assertNotIn(word, outer, name)
                self.assertNotIn(word, NATIVE, name)
                self.assertNotIn(word, BARRED, name)
                self.assertTrue(word.replace("_", "a").isalnum() and not word.startswith("__"), (name, word))
            for node in ast.walk(tree):
                if isinstance(node, ast.Name) and isinstance(node.ctx, ast.Load):
                    if node.id in NATIVE:
                        self.assertIn(node.id, BUILTINS, (name, node.lineno))
                    self.assertNotEqual(node.id, "_")
                if isinstance(node, (ast.FunctionDef, ast.ClassDef)) and not node.name.startswith("__"):
                    self.assertNotIn(node.name, NATIVE, name)
                    self.assertNotIn(node.name, BARRED)

    def test_methods_and_calls(self):
        own = {node.name for name, node in nodes(ast.FunctionDef)}
        for name, node in nodes(ast.Call):
            if isinstance(node.func, ast.Attribute):
                self.assertTrue(node.func.attr in METHODS or node.func.attr in own, (name, node.lineno))
                self.assertFalse(node.func.attr in METHODS and node.keywords, (name, node.lineno))
                self.assertFalse(node.func.attr in METHODS and node.func.attr in own, (name, node.lineno))
            for each in node.args:
                self.assertNotIsInstance(each, ast.Starred, (name, node.lineno))
            if isinstance(node.func, ast.Name) and node.func.id in LIBRARY["itertools"]:
                self.assertEqual(node.keywords, [], (name, node.lineno))
            if isinstance(node.func, ast.Name) and node.func.id in BUILTINS:
                self.assertLessEqual({each.arg for each in node.keywords}, {"key", "start"}, (name, node.lineno))

    def test_no_name_is_a_method_and_an_attribute(self):
        methods = {each.name for name, node in nodes(ast.ClassDef) for each in node.body if isinstance(each, ast.FunctionDef)}
        stored = {node.attr for name, node in nodes(ast.Attribute) if isinstance(node.ctx, ast.Store)}
        self.assertEqual(methods & stored, set())
        read = {node.attr for name, node in nodes(ast.Attribute) if isinstance(node.ctx, ast.Load)}
        self.assertLessEqual(read, methods | stored | METHODS)

    def test_iterators_and_sets_are_used_at_once(self):
        for name, tree in TREES.items():
            above = parents(tree)
            for node in ast.walk(tree):
                if not isinstance(node, ast.Call):
                    continue
                upper = above[node]
                if called(node) == "set":
                    self.assertTrue(isinstance(upper, ast.Call) and called(upper) in ("sorted", "len"), (name, node.lineno))
                if called(node) in ITERATORS:
                    at_once = isinstance(upper, (ast.For, ast.comprehension)) and upper.iter == node
                    taken = isinstance(upper, ast.Call) and isinstance(upper.func, ast.Name) and (
                        upper.func.id in TAKERS or called(node) == "range" and upper.func.id == "reversed")
                    ranged = called(node) == "range" and isinstance(upper, ast.Compare)
                    self.assertTrue(at_once or taken or ranged, (name, node.lineno))

    def test_strings_and_numbers(self):
        for name, node in nodes(ast.Constant):
            self.assertNotIsInstance(node.value, (float, complex, bytes))
            if isinstance(node.value, str):
                self.assertNotIn("%", node.value)
                self.assertNotIn("__", node.value)
                self.assertFalse(WORDS & set(node.value.replace(",", " ").split()) and "\n" not in node.value
                                 and node.value in WORDS, (name, node.value))
        for name, node in nodes(ast.BinOp):
            if isinstance(node.op, ast.Pow):
                self.assertIsInstance(node.right, ast.Constant)
        for name, node in nodes((ast.Name, ast.Attribute)):
            self.assertNotIn(node.id if isinstance(node, ast.Name) else node.attr, WORDS)

    def test_what_a_loop_goes_over_is_not_changed_in_it(self):
        for name, node in nodes(ast.For):
            over = {ast.unparse(each) for each in ast.walk(node.iter) if isinstance(each, (ast.Name, ast.Attribute))}
            for row in node.body:
                for each in ast.walk(row):
                    if isinstance(each, ast.Call) and isinstance(each.func, ast.Attribute) and each.func.attr in (
                            "append", "extend", "pop", "insert", "remove", "clear", "update", "setdefault", "reverse"):
                        self.assertNotIn(ast.unparse(each.func.value), over, (name, node.lineno))
                    if isinstance(each, ast.Subscript) and isinstance(each.ctx, ast.Store):
                        self.assertNotIn(ast.unparse(each.value), over, (name, node.lineno))


if __name__ == "__main__":
    unittest.main()
