"""The form of the package's own files: the rules of the language that can be seen from outside."""

import ast
import builtins
import os
import re
import unittest

PACKAGE = os.path.join(os.path.dirname(os.path.dirname(os.path.abspath(__file__))), "mirrornet")

STATEMENTS = (ast.Assign, ast.AugAssign, ast.If, ast.While, ast.For, ast.Return, ast.Break, ast.Continue, ast.Pass,
              ast.Raise, ast.Try, ast.Expr, ast.FunctionDef, ast.ClassDef, ast.ImportFrom)
EXPRESSIONS = (ast.BoolOp, ast.BinOp, ast.UnaryOp, ast.Lambda, ast.IfExp, ast.Dict, ast.Set, ast.ListComp, ast.Compare,
               ast.Call, ast.JoinedStr, ast.FormattedValue, ast.Constant, ast.Attribute, ast.Subscript, ast.Name,
               ast.List, ast.Tuple, ast.Slice)
BUILT_IN = """len range enumerate zip min max sum abs sorted reversed int str bool list tuple dict set frozenset
    isinstance ord repr any all divmod Exception ValueError TypeError KeyError IndexError LookupError
    ZeroDivisionError ArithmeticError OverflowError RuntimeError NotImplementedError AttributeError
    StopIteration""".split()
METHODS = """append clear copy count endswith extend find get index insert isalnum isalpha isdigit islower isspace
    isupper items join keys ljust lower lstrip partition pop remove replace reverse rfind rjust rpartition rsplit
    rstrip setdefault split splitlines startswith strip update upper values zfill bit_length""".split()
UNUSED_WORDS = """type typing typing_extensions enum Enum IntEnum StrEnum Flag IntFlag Generic Protocol ABC ABCMeta
    namedtuple NamedTuple TypedDict TYPE_CHECKING abstractmethod""".split()
UNUSED_NAMES = """register mro elements open input version_info with_traceback add_note format format_map attrgetter
    breakpoint builtins compile copyright credits delattr dir eval exec exit gc getattr globals hasattr help id
    importlib license locals methodcaller os quit setattr super type vars sys""".split()
WALKED_AT_ONCE = "zip enumerate reversed range items keys values".split()
WALKERS = "list tuple dict sorted sum any all enumerate zip min max".split()
SPECIAL = "__init__ __eq__ __repr__ __str__ __len__".split()
OWNERS = (str, int, list, dict, set, bytes, tuple)


def sources():
    found = {}
    for name in sorted(os.listdir(PACKAGE)):
        if name != "__pycache__":
            with open(os.path.join(PACKAGE, name), "rb") as file:
                found[name] = file.read().decode("utf-8")
    return found


def functions(tree):
    return [node for node in ast.walk(tree) if isinstance(node, ast.FunctionDef)]


def bound_names(tree):
    names = [node.id for node in ast.walk(tree) if isinstance(node, ast.Name) and isinstance(node.ctx, ast.Store)]
    for node in functions(tree):
        names += [argument.arg for argument in node.args.args]
    return names


class Form(unittest.TestCase):
    def setUp(self):
        self.sources = sources()
        self.trees = {name: ast.parse(text) for name, text in self.sources.items()}

    def test_files_and_signs(self):
        self.assertIn("__init__.py", self.sources)
        for name, text in self.sources.items():
            self.assertRegex(name, r"^[a-z0-9_]+\.py$")
            self.assertFalse(name[:-3] in dir(builtins) or name.startswith("test"), name)
            self.assertEqual(re.sub(r"[ -~\n]", "", text), "", name)
            for word in UNUSED_WORDS:
                self.assertIsNone(re.search(rf"\b{word}\b", text), (name, word))
            self.assertIsNone(re.search("dataclass|overload|contextmanager", text), name)

    def test_size(self):
        for name, text in self.sources.items():
            rows = text.splitlines()
            self.assertLessEqual(len(rows), 399, name)
            self.assertLessEqual(max(map(len, rows)), 120, name)
            for node in functions(self.trees[name]):
                self.assertLessEqual(node.end_lineno - node.lineno + 1, 40, (name, node.name))

    def test_statements_and_expressions(self):
        for name, tree in self.trees.items():
            for node in ast.walk(tree):
                if isinstance(node, ast.stmt):
                    self.assertIsInstance(node, STATEMENTS, (name, node.lineno))
                if isinstance(node, ast.expr):
                    self.assertIsInstance(node, EXPRESSIONS, (name, node.lineno))
                self.assertNotIsInstance(node, ast.Div, name)
                if isinstance(node, (ast.For, ast.While)):
                    self.assertEqual(node.orelse, [], (name, node.lineno))
                if isinstance(node, ast.Assign):
                    self.assertEqual(len(node.targets), 1, (name, node.lineno))
                if isinstance(node, ast.Constant):
                    self.assertNotIsInstance(node.value, (float, bytes, complex), (name, node.lineno))

    def test_imports(self):
        draws = {}
        for name, tree in self.trees.items():
            rows = [node for node in ast.walk(tree) if isinstance(node, ast.ImportFrom)]
            draws[name] = [row.module.split(".")[1] + ".py" for row in rows]
            for row in rows:
                self.assertIn(row, tree.body)
                defined = self.trees[row.module.split(".")[1] + ".py"].body
                own = [node.name for node in defined if isinstance(node, (ast.FunctionDef, ast.ClassDef))]
                own += [node.targets[0].id for node in defined if isinstance(node, ast.Assign)]
                self.assertEqual([alias.name for alias in row.names if alias.name not in own], [], name)
        while draws:
            free = [name for name in draws if not any(other in draws for other in draws[name])]
            self.assertNotEqual(free, [], "files draw from one another")
            draws = {name: draws[name] for name in draws if name not in free}

    def test_defs(self):
        for name, tree in self.trees.items():
            for node in functions(tree):
                self.assertEqual((node.decorator_list, node.args.vararg, node.args.kwarg, node.args.kwonlyargs),
                                 ([], None, None, []), (name, node.name))
            for node in tree.body:
                if isinstance(node, ast.ClassDef):
                    self.assertTrue(all(isinstance(part, ast.FunctionDef) for part in node.body), (name, node.name))
        body = self.trees["mirrors.py"].body
        self.assertEqual([ast.unparse(node.args) for node in body if getattr(node, "name", "") == "answers"], ["calls"])

    def test_names(self):
        for name, tree in self.trees.items():
            used = [node.id for node in ast.walk(tree) if isinstance(node, ast.Name)]
            self.assertEqual([word for word in used if word in dir(builtins) and word not in BUILT_IN], [], name)
            bound = bound_names(tree)
            self.assertEqual([word for word in bound if word in dir(builtins)], [], name)
            parts = [node.attr for node in ast.walk(tree) if isinstance(node, ast.Attribute)]
            defs = [node.name for node in functions(tree)]
            words = used + bound + parts + defs
            self.assertEqual([w for w in words if w.startswith("_") and w not in SPECIAL], [], name)
            self.assertEqual([w for w in words if w in UNUSED_NAMES], [], name)

    def test_names_bound_once_and_not_hidden(self):
        for name, tree in self.trees.items():
            top = [alias.name for node in tree.body if isinstance(node, ast.ImportFrom) for alias in node.names]
            top += [node.name for node in tree.body if isinstance(node, (ast.FunctionDef, ast.ClassDef))]
            top += [node.targets[0].id for node in tree.body if isinstance(node, ast.Assign)]
            self.assertEqual(len(top), len(set(top)), name)
            inner = [word for node in functions(tree) for word in bound_names(node)]
            self.assertEqual([word for word in inner if word in top], [], name)
            self.assertEqual([word for word in bound_names(tree) if not word.isascii()], [], name)

    def test_is_stands_beside_none_true_and_false(self):
        for name, tree in self.trees.items():
            for node in ast.walk(tree):
                if isinstance(node, ast.Compare) and isinstance(node.ops[0], (ast.Is, ast.IsNot)):
                    self.assertIn(ast.unparse(node.comparators[0]), ("None", "True", "False"), (name, node.lineno))

    def test_walked_at_once(self):
        for name, tree in self.trees.items():
            walked = [node.iter for node in ast.walk(tree) if isinstance(node, (ast.For, ast.comprehension))]
            for node in ast.walk(tree):
                if isinstance(node, ast.Call) and getattr(node.func, "id", "") in WALKERS:
                    walked += node.args
            for node in ast.walk(tree):
                called = getattr(node, "func", None)
                if getattr(called, "id", getattr(called, "attr", "")) in WALKED_AT_ONCE:
                    self.assertIn(node, walked, (name, node.lineno))

    def test_methods_and_values_of_objects(self):
        methods, values, parts = set(), set(), set()
        for tree in self.trees.values():
            for node in ast.walk(tree):
                if isinstance(node, ast.ClassDef):
                    methods.update(part.name for part in node.body)
                if isinstance(node, ast.Attribute):
                    (values if isinstance(node.ctx, ast.Store) else parts).add(node.attr)
        self.assertEqual(methods & values, set())
        pythons = {word for owner in OWNERS for word in dir(owner)}
        self.assertEqual(((methods | values) & pythons) - set(SPECIAL), set())
        self.assertEqual(parts - methods - values - set(METHODS), set())
