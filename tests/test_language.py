"""The package keeps to the part of Python that it is written in (L1 to L28, as far as a test can see them)."""

import ast
import builtins
import pathlib
import re
import unittest

PACKAGE = pathlib.Path(__file__).resolve().parent.parent / "fewestshifts"

STATEMENTS = (ast.FunctionDef, ast.ClassDef, ast.Assign, ast.AugAssign, ast.If, ast.While, ast.For, ast.Return,
              ast.Break, ast.Continue, ast.Pass, ast.Raise, ast.Try, ast.Expr, ast.ImportFrom)
EXPRESSIONS = (ast.Constant, ast.List, ast.Tuple, ast.Dict, ast.BinOp, ast.UnaryOp, ast.BoolOp, ast.Compare,
               ast.IfExp, ast.Call, ast.Attribute, ast.Subscript, ast.Slice, ast.ListComp, ast.Name, ast.JoinedStr,
               ast.FormattedValue, ast.Lambda)
OPERATORS = (ast.Add, ast.Sub, ast.Mult, ast.FloorDiv, ast.Mod, ast.Pow, ast.BitAnd, ast.BitOr, ast.BitXor,
             ast.LShift, ast.RShift)
OWN_NAMES = set("""len range enumerate zip min max sum abs sorted reversed int str bool list tuple dict set frozenset
    isinstance ord repr any all divmod Exception ValueError TypeError KeyError IndexError LookupError
    ZeroDivisionError ArithmeticError OverflowError RuntimeError NotImplementedError AttributeError
    StopIteration""".split())
METHODS = set("""append clear copy count endswith extend find get index insert isalnum isalpha isdigit islower isspace
    isupper items join keys ljust lower lstrip partition pop remove replace reverse rfind rjust rpartition rsplit
    rstrip setdefault split splitlines startswith strip update upper values zfill bit_length""".split())
TAKEN = {name for value in ("", 0, [], {}, set(), b"", ()) for name in dir(value)} - {"add", "discard"}
UNUSED = set("""register mro elements open input version_info with_traceback add_note attrgetter breakpoint builtins
    compile copyright credits delattr dir eval exec exit gc getattr globals hasattr help id importlib license locals
    methodcaller os quit setattr super type vars sys format format_map""".split())
UNWRITTEN = re.compile(r"\b(type|typing|typing_extensions|enum|Enum|IntEnum|StrEnum|Flag|IntFlag|Generic|Protocol|ABC"
                       r"|ABCMeta|namedtuple|NamedTuple|TypedDict|TYPE_CHECKING|abstractmethod)\b"
                       r"|dataclass|overload|contextmanager")
WALKED = {"zip", "enumerate", "reversed", "range"}
WALKERS = {"list", "tuple", "dict", "sorted", "sum", "any", "all", "enumerate", "zip", "min", "max"}
CHANGES = {"append", "clear", "extend", "insert", "pop", "remove", "reverse", "setdefault", "update"}
KEYWORDS = {"sorted": {"key", "reverse"}, "min": {"key", "default"}, "max": {"key", "default"}, "sum": {"start"},
            "enumerate": {"start"}, "zip": {"strict"}}


def sources():
    return sorted(PACKAGE.glob("*.py"))


def trees():
    return [(path.name, ast.parse(path.read_text())) for path in sources()]


def nodes(kind):
    return [(name, node) for name, tree in trees() for node in ast.walk(tree) if isinstance(node, kind)]


def called_name(node):
    return node.func.id if isinstance(node, ast.Call) and isinstance(node.func, ast.Name) else None


def bound_names(tree):
    """Every name that the tree binds: parameters, locals, functions, classes, imports."""
    for node in ast.walk(tree):
        if isinstance(node, ast.arg):
            yield node.arg
        elif isinstance(node, ast.Name) and isinstance(node.ctx, ast.Store):
            yield node.id
        elif isinstance(node, (ast.FunctionDef, ast.ClassDef)):
            yield node.name


class Files(unittest.TestCase):
    def test_files(self):
        others = [path for path in PACKAGE.iterdir() if path.name != "__pycache__" and path not in sources()]
        self.assertEqual(others, [])
        self.assertTrue((PACKAGE / "__init__.py").exists())
        for path in sources():
            self.assertRegex(path.stem, r"\A([a-z][a-z0-9_]*|__init__)\Z")
            self.assertNotIn(path.stem, set(dir(builtins)) | {"test", "tests", "testing", "site", "conftest"})

    def test_signs_and_sizes(self):
        for path in sources():
            text = path.read_text()
            self.assertEqual(set(re.findall(r"[^ -~\n]", text)), set(), path.name)
            lines = text.split("\n")
            self.assertLessEqual(len(lines), 400, path.name)
            self.assertLessEqual(max(map(len, lines)), 120, path.name)
            self.assertIsNone(UNWRITTEN.search(text), path.name)

    def test_functions_are_short(self):
        for name, node in nodes(ast.FunctionDef):
            self.assertLessEqual(node.end_lineno - node.lineno + 1, 40, (name, node.name))

    def test_imports(self):
        drawn = {}
        for name, tree in trees():
            drawn[name[:-3]] = []
            for node in ast.walk(tree):
                if isinstance(node, ast.ImportFrom):
                    self.assertIn(node, tree.body)
                    self.assertEqual(node.level, 0)
                    self.assertRegex(node.module, r"\Afewestshifts\.[a-z]+\Z")
                    source = node.module.split(".")[1]
                    drawn[name[:-3]].append(source)
                    there = set(bound_names(ast.parse((PACKAGE / (source + ".py")).read_text())))
                    for alias in node.names:
                        self.assertIsNone(alias.asname)
                        self.assertIn(alias.name, there)
        while drawn:
            free = [name for name in drawn if not [source for source in drawn[name] if source in drawn]]
            self.assertNotEqual(free, [], "files draw from one another")
            drawn = {name: drawn[name] for name in drawn if name not in free}


class Forms(unittest.TestCase):
    def test_statements_and_expressions(self):
        for name, node in nodes(ast.stmt):
            self.assertIsInstance(node, STATEMENTS, (name, node.lineno))
        for name, node in nodes(ast.expr):
            self.assertIsInstance(node, EXPRESSIONS, (name, node.lineno))
        for name, node in nodes(ast.operator):
            self.assertIsInstance(node, OPERATORS, name)

    def test_top_of_a_file(self):
        for name, tree in trees():
            self.assertIsNotNone(ast.get_docstring(tree), name)
            for node in tree.body[1:]:
                self.assertIsInstance(node, (ast.ImportFrom, ast.FunctionDef, ast.ClassDef, ast.Assign), name)
            bound = [node.targets[0].id for node in tree.body if isinstance(node, ast.Assign)]
            bound += [node.name for node in tree.body if isinstance(node, (ast.FunctionDef, ast.ClassDef))]
            bound += [alias.name for node in tree.body if isinstance(node, ast.ImportFrom) for alias in node.names]
            self.assertEqual(len(bound), len(set(bound)), name)

    def test_assignments(self):
        for name, node in nodes(ast.Assign):
            self.assertEqual(len(node.targets), 1, (name, node.lineno))
            self.assertNotIsInstance(node.targets[0], (ast.Tuple, ast.List), (name, node.lineno))

    def test_loops_and_comprehensions(self):
        for name, node in nodes((ast.For, ast.While)):
            self.assertEqual(node.orelse, [], (name, node.lineno))
        for name, node in nodes(ast.ListComp):
            self.assertEqual(len(node.generators), 1, (name, node.lineno))
            self.assertLessEqual(len(node.generators[0].ifs), 1, (name, node.lineno))

    def test_functions(self):
        for name, node in nodes(ast.FunctionDef):
            about = (name, node.name)
            self.assertEqual(node.decorator_list, [], about)
            self.assertIsNone(node.returns, about)
            self.assertEqual((node.args.vararg, node.args.kwarg), (None, None), about)
            self.assertEqual((node.args.kwonlyargs, node.args.posonlyargs), ([], []), about)

    def test_constants(self):
        for name, node in nodes(ast.Constant):
            self.assertIn(type(node.value), (int, str, bool, type(None)), (name, node.lineno))
            if isinstance(node.value, str):
                self.assertNotIn("%", node.value, (name, node.lineno))

    def test_is_stands_beside_none_alone(self):
        for name, node in nodes(ast.Compare):
            for operator, right in zip(node.ops, node.comparators):
                if isinstance(operator, (ast.Is, ast.IsNot)):
                    self.assertIsInstance(right, ast.Constant, (name, node.lineno))

    def test_classes(self):
        methods = {}
        values = {}
        for name, node in nodes(ast.ClassDef):
            self.assertEqual((node.bases, node.decorator_list), ([], []), node.name)
            for part in node.body[1:] if ast.get_docstring(node) else node.body:
                self.assertIsInstance(part, ast.FunctionDef, node.name)
                methods[part.name] = True
        for name, node in nodes(ast.Attribute):
            if isinstance(node.ctx, ast.Store):
                values[node.attr] = True
        self.assertEqual(set(methods) & set(values), set())
        self.assertEqual((set(methods) | set(values)) & TAKEN, {"__init__"})


class Names(unittest.TestCase):
    def test_names(self):
        for name, tree in trees():
            for bound in bound_names(tree):
                if bound != "__init__":
                    self.assertRegex(bound, r"\A[A-Za-z][A-Za-z0-9_]*\Z", name)
                    self.assertNotIn(bound, set(dir(builtins)) | UNUSED, name)

    def test_locals_are_not_called_like_imports_or_classes(self):
        for name, tree in trees():
            above = {alias.name for node in tree.body if isinstance(node, ast.ImportFrom) for alias in node.names}
            above |= {node.name for node in tree.body if isinstance(node, (ast.ClassDef, ast.FunctionDef))}
            for function in [node for node in ast.walk(tree) if isinstance(node, ast.FunctionDef)]:
                inner = set(bound_names(function)) - {function.name}
                self.assertEqual(inner & above, set(), (name, function.name))

    def test_names_of_pythons_own(self):
        for name, node in nodes(ast.Name):
            if node.id in dir(builtins):
                self.assertIn(node.id, OWN_NAMES, (name, node.lineno))

    def test_methods(self):
        own = {node.name for name, node in nodes(ast.FunctionDef)}
        for name, node in nodes(ast.Call):
            if isinstance(node.func, ast.Attribute):
                self.assertIn(node.func.attr, METHODS | own, (name, node.lineno))
        for name, node in nodes(ast.Attribute):
            self.assertNotIn(node.attr, UNUSED, (name, node.lineno))
            self.assertFalse(node.attr.startswith("_"), (name, node.lineno))

    def test_keywords(self):
        for name, node in nodes(ast.Call):
            given = {keyword.arg for keyword in node.keywords}
            if called_name(node) in dir(builtins) or isinstance(node.func, ast.Attribute):
                self.assertLessEqual(given, KEYWORDS.get(called_name(node), set()), (name, node.lineno))


class Walks(unittest.TestCase):
    def test_walked_on_the_spot(self):
        for name, tree in trees():
            walked = []
            for node in ast.walk(tree):
                if isinstance(node, (ast.For, ast.comprehension)):
                    walked.append(node.iter)
                elif called_name(node) in WALKERS and node.args:
                    walked.append(node.args[0])
            for node in ast.walk(tree):
                method = isinstance(node, ast.Call) and isinstance(node.func, ast.Attribute) and node.func.attr
                if called_name(node) in WALKED or method in ("items", "keys", "values"):
                    self.assertIn(node, walked, (name, node.lineno))

    def test_what_is_walked_is_not_changed(self):
        for name, loop in nodes(ast.For):
            walked = {node.id for node in ast.walk(loop.iter) if isinstance(node, ast.Name)}
            for node in ast.walk(loop):
                changed = None
                if isinstance(node, ast.Call) and isinstance(node.func, ast.Attribute) and node.func.attr in CHANGES:
                    changed = node.func.value
                elif isinstance(node, ast.Subscript) and isinstance(node.ctx, ast.Store):
                    changed = node.value
                if isinstance(changed, ast.Name):
                    self.assertNotIn(changed.id, walked, (name, loop.lineno))

    def test_sets_are_not_kept(self):
        for name, tree in trees():
            within = [node.args[0] for node in ast.walk(tree) if called_name(node) in ("len", "sorted")]
            for node in ast.walk(tree):
                if called_name(node) in ("set", "frozenset"):
                    self.assertIn(node, within, (name, node.lineno))

    def test_lists_and_dicts_of_the_top_are_only_read(self):
        for name, tree in trees():
            tops = {node.targets[0].id for node in tree.body
                    if isinstance(node, ast.Assign) and isinstance(node.value, (ast.List, ast.Dict))}
            read = [node.value for node in ast.walk(tree)
                    if isinstance(node, ast.Subscript) and isinstance(node.ctx, ast.Load)]
            for node in ast.walk(tree):
                if isinstance(node, ast.Name) and isinstance(node.ctx, ast.Load) and node.id in tops:
                    self.assertIn(node, read, (name, node.lineno))


if __name__ == "__main__":
    unittest.main()
