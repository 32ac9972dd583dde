"""The form that the package's files are held to, as far as it can be read off them."""

import ast
import builtins
import pathlib
import re
import unittest

PACKAGE = pathlib.Path(__file__).resolve().parent.parent / "wholelab"
NODES = """Module Expr Constant ImportFrom alias FunctionDef arguments arg ClassDef Assign AugAssign If While For Return
Break Continue Pass Raise Try ExceptHandler Call Name Attribute Subscript Slice List Tuple Dict BinOp UnaryOp BoolOp
Compare IfExp ListComp comprehension JoinedStr FormattedValue Load Store Add Sub Mult FloorDiv Mod Pow BitAnd BitOr
BitXor LShift RShift USub UAdd Invert Not And Or Eq NotEq Lt LtE Gt GtE Is IsNot In NotIn keyword Lambda""".split()
BUILTINS = """len range enumerate zip min max sum abs sorted reversed int str bool list tuple dict set frozenset isinstance
ord repr any all divmod Exception ValueError TypeError KeyError IndexError LookupError ZeroDivisionError ArithmeticError
OverflowError RuntimeError NotImplementedError AttributeError StopIteration""".split()
METHODS = """append clear copy count endswith extend find get index insert isalnum isalpha isdigit islower isspace isupper
items join keys ljust lower lstrip partition pop remove replace reverse rfind rjust rpartition rsplit rstrip setdefault
split splitlines startswith strip update upper values zfill bit_length""".split()
WORDS = """type typing typing_extensions enum Enum IntEnum StrEnum Flag IntFlag Generic Protocol ABC ABCMeta namedtuple
NamedTuple TypedDict TYPE_CHECKING abstractmethod""".split()
UNUSED_NAMES = "register mro elements open input version_info with_traceback add_note format format_map".split()


def files():
    return sorted(path for path in PACKAGE.rglob("*") if path.is_file() and "__pycache__" not in path.parts)


def trees():
    return [(path, ast.parse(path.read_text("ascii"))) for path in files()]


def nodes(*kinds):
    return [(path, node) for path, tree in trees() for node in ast.walk(tree) if isinstance(node, kinds)]


def own_names():
    return {node.name for _, node in nodes(ast.FunctionDef, ast.ClassDef)}


class Files(unittest.TestCase):
    def test_names(self):
        for path in files():
            self.assertRegex(path.name, r"\A(__init__|[a-z][a-z0-9_]*)\.py\Z")
            self.assertNotIn(path.stem, dir(builtins))
        self.assertLessEqual({"__init__.py", "desk.py"}, {path.name for path in files()})

    def test_signs_and_sizes(self):
        for path in files():
            text = path.read_bytes().decode("ascii")
            self.assertRegex(text, r"\A[ -~\n]*\Z", path)
            self.assertLessEqual(len(text.splitlines()), 400, path)
            self.assertLessEqual(max(map(len, text.splitlines())), 120, path)

    def test_words(self):
        for path in files():
            text = path.read_text("ascii")
            self.assertFalse(set(WORDS) & set(re.findall(r"\w+", text)), path)
            self.assertIsNone(re.search("dataclass|overload|contextmanager", text), path)

    def test_nothing_but_plain_values_and_defs_at_the_top(self):
        for path, tree in trees():
            for node in tree.body:
                self.assertIsInstance(node, (ast.Expr, ast.ImportFrom, ast.FunctionDef, ast.ClassDef, ast.Assign), path)
                if isinstance(node, ast.Expr):
                    self.assertIsInstance(node.value.value, str)
                if isinstance(node, ast.Assign):
                    ast.literal_eval(node.value)


class Statements(unittest.TestCase):
    def test_kinds(self):
        for path, node in nodes(ast.AST):
            self.assertIn(node.__class__.__name__, NODES, (path, getattr(node, "lineno", 0)))

    def test_imports(self):
        for path, node in nodes(ast.ImportFrom):
            self.assertRegex(node.module, r"\Awholelab\.[a-z_]+\Z", path)
            self.assertEqual(node.level, 0, path)
            defined = (PACKAGE / (node.module.split(".")[1] + ".py")).read_text("ascii")
            for name in node.names:
                self.assertRegex(defined, rf"(?m)^(class {name.name}\b|def {name.name}\(|{name.name} =)")

    def test_functions(self):
        for path, node in nodes(ast.FunctionDef):
            self.assertLessEqual(node.end_lineno - node.lineno + 1, 40, (path, node.name))
            self.assertFalse(node.decorator_list or node.args.vararg or node.args.kwarg or node.args.kwonlyargs)

    def test_one_target(self):
        for path, node in nodes(ast.Assign):
            self.assertEqual(len(node.targets), 1, (path, node.lineno))

    def test_constants(self):
        for path, node in nodes(ast.Constant):
            self.assertIn(node.value.__class__, (int, str, bool, None.__class__), (path, node.lineno))
            self.assertNotIn("%", str(node.value), (path, node.lineno))


class Names(unittest.TestCase):
    def test_plain(self):
        used = [node.id for _, node in nodes(ast.Name)] + [node.attr for _, node in nodes(ast.Attribute)]
        for name in used + [node.arg for _, node in nodes(ast.arg)] + sorted(own_names() - {"__init__"}):
            self.assertRegex(name, r"\A[A-Za-z][A-Za-z0-9_]*\Z")
            self.assertNotIn(name, UNUSED_NAMES)

    def test_pythons_own(self):
        for path, node in nodes(ast.Name):
            if hasattr(builtins, node.id):
                self.assertIn(node.id, BUILTINS, (path, node.lineno))
                self.assertIsInstance(node.ctx, ast.Load, (path, node.lineno))
        for path, node in nodes(ast.arg):
            self.assertFalse(hasattr(builtins, node.arg), (path, node.lineno))

    def test_methods(self):
        for path, node in nodes(ast.Call):
            if isinstance(node.func, ast.Attribute):
                self.assertIn(node.func.attr, own_names() | set(METHODS), (path, node.lineno))

    def test_no_method_is_a_value_elsewhere(self):
        stored = {node.attr for _, node in nodes(ast.Attribute) if isinstance(node.ctx, ast.Store)}
        self.assertFalse(stored & own_names())
        for name in stored:
            self.assertFalse([kind for kind in (str, int, list, dict, set, bytes) if hasattr(kind, name)], name)


if __name__ == "__main__":
    unittest.main()
