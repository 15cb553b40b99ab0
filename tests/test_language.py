"""The form of the package's own files, as far as it can be read off their trees."""

import ast
import pathlib
import re
import unittest

PACKAGE = pathlib.Path(__file__).resolve().parent.parent / "cellforming"

STATEMENTS = (ast.Assign, ast.AugAssign, ast.If, ast.While, ast.For, ast.Return, ast.Break, ast.Continue, ast.Pass,
              ast.Raise, ast.Try, ast.Expr, ast.FunctionDef, ast.ClassDef, ast.ImportFrom)
EXPRESSIONS = (ast.Constant, ast.Name, ast.Attribute, ast.Subscript, ast.Slice, ast.Call, ast.List, ast.Tuple,
               ast.Dict, ast.BinOp, ast.UnaryOp, ast.BoolOp, ast.Compare, ast.IfExp, ast.ListComp, ast.Lambda,
               ast.JoinedStr, ast.FormattedValue)
BUILTINS = """len range enumerate zip min max sum abs sorted reversed int str bool list tuple dict set frozenset
isinstance ord repr any all divmod Exception ValueError TypeError KeyError IndexError LookupError ZeroDivisionError
ArithmeticError OverflowError RuntimeError NotImplementedError StopIteration""".split()
METHODS = """append clear copy count endswith extend find get index insert isalnum isalpha isdigit islower isspace
isupper items join keys ljust lower lstrip partition pop remove replace reverse rfind rjust rpartition rsplit rstrip
setdefault split splitlines startswith strip update upper values zfill bit_length""".split()
WORDS = """type typing typing_extensions enum Enum IntEnum StrEnum Flag IntFlag Generic Protocol ABC ABCMeta
namedtuple NamedTuple TypedDict TYPE_CHECKING abstractmethod""".split()
NAMES = """register mro elements open input version_info with_traceback add_note attrgetter breakpoint builtins
compile copyright credits delattr dir eval exec exit gc getattr globals hasattr help id importlib license locals
methodcaller os quit setattr super sys vars format format_map""".split()


def source_files():
    return sorted(path for path in PACKAGE.rglob("*") if path.is_file() and "__pycache__" not in path.parts)


def trees():
    return [(path.name, ast.parse(path.read_text())) for path in source_files()]


def nodes(kind):
    return [(name, node) for name, tree in trees() for node in ast.walk(tree) if isinstance(node, kind)]


def bound_names(tree):
    names = [node.id for node in ast.walk(tree) if isinstance(node, ast.Name) and isinstance(node.ctx, ast.Store)]
    names += [node.arg for node in ast.walk(tree) if isinstance(node, ast.arg)]
    names += [node.name for node in ast.walk(tree) if isinstance(node, (ast.FunctionDef, ast.ClassDef))]
    names += [node.name for node in ast.walk(tree) if isinstance(node, ast.alias)]
    return names


class Language(unittest.TestCase):
    def test_files_and_signs(self):
        self.assertTrue(source_files())
        for path in source_files():
            self.assertRegex(path.name, r"^[a-z_][a-z0-9_]*\.py$")
            text = path.read_text(encoding="ascii")
            self.assertIsNone(re.search(r"[^ -~\n]", text), path.name)
            self.assertLessEqual(len(text.splitlines()), 400, path.name)
            self.assertLessEqual(max(len(line) for line in text.splitlines()), 120, path.name)

    def test_words_that_stand_nowhere(self):
        for path in source_files():
            text = path.read_text()
            found = [word for word in WORDS if re.search(rf"\b{word}\b", text)]
            found += [part for part in ("dataclass", "overload", "contextmanager") if part in text]
            self.assertEqual(found, [], path.name)

    def test_statements_and_expressions(self):
        for name, node in nodes((ast.stmt, ast.expr)):
            self.assertIsInstance(node, STATEMENTS + EXPRESSIONS, (name, node.lineno))
        for name, node in nodes((ast.For, ast.While)):
            self.assertEqual(node.orelse, [], (name, node.lineno))
        for name, node in nodes(ast.Assign):
            self.assertEqual(len(node.targets), 1, (name, node.lineno))
        for name, node in nodes(ast.ListComp):
            self.assertTrue(len(node.generators) == 1 and len(node.generators[0].ifs) <= 1, (name, node.lineno))
        for name, node in nodes(ast.BinOp):
            self.assertNotIsInstance(node.op, (ast.Div, ast.MatMult), (name, node.lineno))
        for name, node in nodes(ast.Constant):
            self.assertIn(type(node.value), (int, str, bool, type(None)), (name, node.lineno))

    def test_a_text_by_itself_only_at_a_files_top(self):
        for name, tree in trees():
            docstring = tree.body[0]
            for node in ast.walk(tree):
                if isinstance(node, ast.Expr) and node is not docstring:
                    self.assertIsInstance(node.value, ast.Call, (name, node.lineno))

    def test_functions_and_classes(self):
        for name, node in nodes(ast.FunctionDef):
            self.assertLessEqual(node.end_lineno - node.lineno + 1, 40, (name, node.name))
            rest = node.args
            self.assertFalse(node.decorator_list or rest.vararg or rest.kwarg or rest.kwonlyargs or rest.posonlyargs)
        for name, node in nodes(ast.ClassDef):
            self.assertFalse(node.decorator_list or node.keywords or len(node.bases) > 1, (name, node.name))
            for part in node.body:
                self.assertIsInstance(part, ast.FunctionDef, (name, part.lineno))

    def test_imports_are_the_packages_own_and_go_one_way(self):
        drawn = {}
        for name, node in nodes((ast.Import, ast.ImportFrom)):
            self.assertIsInstance(node, ast.ImportFrom, (name, node.lineno))
            self.assertTrue(node.level == 0 and node.module.startswith("cellforming."), (name, node.lineno))
            self.assertTrue(all(part.name != "*" and part.asname is None for part in node.names))
            drawn.setdefault(name, []).append(node.module.partition(".")[2] + ".py")
        self.assertNotIn("__init__.py", drawn)
        left = {path.name for path in source_files()}
        while left:
            free = {name for name in left if not left.intersection(drawn.get(name, ()))}
            self.assertTrue(free, f"files that draw from one another: {left}")
            left -= free

    def test_names(self):
        for name, tree in trees():
            bound = bound_names(tree)
            for word in bound:
                self.assertTrue(word == "__init__" or re.fullmatch(r"[A-Za-z][A-Za-z0-9_]*", word), (name, word))
                self.assertNotIn(word, BUILTINS + NAMES, name)
            for node in ast.walk(tree):
                if isinstance(node, ast.Name):
                    self.assertIn(node.id, bound + BUILTINS, (name, node.lineno))

    def test_methods_and_values(self):
        methods = [part.name for name, node in nodes(ast.ClassDef) for part in node.body]
        values = [node.attr for name, node in nodes(ast.Attribute) if isinstance(node.ctx, ast.Store)]
        self.assertEqual(set(methods) & set(values), set())
        for name, node in nodes(ast.Attribute):
            self.assertIn(node.attr, methods + values + METHODS, (name, node.lineno))
            self.assertNotIn(node.attr, NAMES, (name, node.lineno))
