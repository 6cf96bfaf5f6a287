"""The form of the package's own files: the rules of the language that can be seen in a file's text or tree."""

import ast
import builtins
import pathlib
import re
import unittest

PACKAGE = pathlib.Path(__file__).resolve().parent.parent / "keyedcalls"

ALLOWED_NODES = set("""
    Module ImportFrom alias FunctionDef arguments arg ClassDef Assign AugAssign If While For Return Break Continue Pass
    Raise Try ExceptHandler Expr Call keyword Constant Name Load Store Attribute Subscript Slice Tuple List Dict
    ListComp comprehension BinOp Add Sub Mult FloorDiv Mod Pow BitAnd BitOr BitXor LShift RShift UnaryOp Not USub Invert
    BoolOp And Or Compare Eq NotEq Lt LtE Gt GtE In NotIn Is IsNot IfExp Lambda JoinedStr FormattedValue
""".split())

ALLOWED_BUILTINS = set("""
    len range enumerate zip min max sum abs sorted reversed int str bool list tuple dict set frozenset isinstance ord repr
    any all divmod Exception ValueError TypeError KeyError IndexError LookupError ZeroDivisionError ArithmeticError
    OverflowError RuntimeError NotImplementedError AttributeError StopIteration
""".split())

ALLOWED_METHODS = set("""
    append clear copy count endswith extend find get index insert isalnum isalpha isdigit islower isspace isupper items
    join keys ljust lower lstrip partition pop remove replace reverse rfind rjust rpartition rsplit rstrip setdefault split
    splitlines startswith strip update upper values zfill bit_length
""".split())

WORDS_NOWHERE = set("""
    type typing typing_extensions enum Enum IntEnum StrEnum Flag IntFlag Generic Protocol ABC ABCMeta namedtuple NamedTuple
    TypedDict TYPE_CHECKING abstractmethod
""".split())

NAMES_NOWHERE = set("""
    register mro elements open input version_info with_traceback add_note attrgetter breakpoint builtins compile copyright
    credits delattr dir eval exec exit gc getattr globals hasattr help id importlib license locals methodcaller os quit
    setattr super type vars sys
""".split())

PLAIN_METHODS = {"__init__", "__eq__", "__repr__", "__str__", "__len__"}


def files():
    return sorted(PACKAGE.rglob("*.py"))


def tree_of(file):
    return ast.parse(file.read_text(encoding="utf-8"))


class Form(unittest.TestCase):
    def test_the_folder_holds_plain_files_alone(self):
        self.assertTrue((PACKAGE / "__init__.py").is_file())
        for entry in PACKAGE.iterdir():
            if entry.name != "__pycache__":
                self.assertRegex(entry.name, r"^(__init__|[a-z][a-z0-9_]*)\.py$")

    def test_sizes_and_signs(self):
        for file in files():
            text = file.read_text(encoding="utf-8")
            rows = text.split("\n")
            self.assertLessEqual(len(rows), 399, file.name)
            self.assertEqual([row for row in rows if len(row) > 120], [], file.name)
            self.assertEqual([sign for sign in text if sign != "\n" and not " " <= sign <= "~"], [], file.name)
            for node in ast.walk(tree_of(file)):
                if isinstance(node, ast.FunctionDef):
                    self.assertLessEqual(node.end_lineno - node.lineno + 1, 40, node.name)

    def test_words_and_names_that_are_not_used(self):
        for file in files():
            text = file.read_text(encoding="utf-8")
            words = set(re.findall(r"[A-Za-z_][A-Za-z0-9_]*", text))
            self.assertEqual(words & WORDS_NOWHERE, set(), file.name)
            self.assertNotRegex(text, r"dataclass|overload|contextmanager", file.name)
            for node in ast.walk(tree_of(file)):
                for name in (getattr(node, field, None) for field in ("id", "attr", "name", "arg")):
                    if isinstance(name, str):
                        self.assertNotIn(name, NAMES_NOWHERE, file.name)
                        self.assertTrue(name[0] != "_" or name in PLAIN_METHODS, f"{file.name}: {name}")

    def test_statements_and_expressions(self):
        for file in files():
            for node in ast.walk(tree_of(file)):
                at = f"{file.name}: {getattr(node, 'lineno', '')}"
                self.assertIn(type(node).__name__, ALLOWED_NODES, at)
                if isinstance(node, (ast.For, ast.While, ast.Try)):
                    self.assertTrue(isinstance(node, ast.Try) or not node.orelse, at)
                if isinstance(node, ast.FunctionDef):
                    rest = node.args.vararg or node.args.kwarg or node.args.kwonlyargs or node.args.posonlyargs
                    self.assertFalse(node.decorator_list or rest, at)
                if isinstance(node, ast.Assign):
                    self.assertEqual(len(node.targets), 1, at)
                if isinstance(node, ast.Constant):
                    self.assertIsInstance(node.value, (int, str, type(None)), at)
                if isinstance(node, ast.ListComp):
                    self.assertTrue(len(node.generators) == 1 and len(node.generators[0].ifs) <= 1, at)
                if isinstance(node, ast.Compare):
                    for operator, side in zip(node.ops, node.comparators):
                        single = isinstance(side, ast.Constant) and (side.value is None or isinstance(side.value, bool))
                        self.assertTrue(not isinstance(operator, (ast.Is, ast.IsNot)) or single, at)

    def test_python_s_own_names_and_methods(self):
        own = set(dir(builtins))
        for file in files():
            for node in ast.walk(tree_of(file)):
                at = f"{file.name}: {getattr(node, 'lineno', '')}"
                if isinstance(node, ast.Name) and isinstance(node.ctx, ast.Load) and node.id in own:
                    self.assertIn(node.id, ALLOWED_BUILTINS, at)
                if isinstance(node, ast.Name) and isinstance(node.ctx, ast.Store) or isinstance(node, ast.arg):
                    self.assertNotIn(node.id if isinstance(node, ast.Name) else node.arg, own, at)
                if isinstance(node, ast.Call) and isinstance(node.func, ast.Attribute):
                    self.assertIn(node.func.attr, ALLOWED_METHODS, at)

    def test_imports_are_the_package_s_own_and_go_one_way(self):
        drawn = {}
        for file in files():
            own = set()
            for node in ast.walk(tree_of(file)):
                if isinstance(node, ast.ImportFrom):
                    self.assertTrue(node.level == 0 and node.module.startswith("keyedcalls."), file.name)
                    self.assertTrue(all(part.name != "*" and part.asname is None for part in node.names), file.name)
                    own.add(node.module.removeprefix("keyedcalls."))
            drawn[file.stem] = own
        while drawn:
            free = [name for name, needed in drawn.items() if not needed & set(drawn)]
            self.assertTrue(free, f"these draw from one another: {sorted(drawn)}")
            for name in free:
                del drawn[name]

    def test_no_parameter_and_no_local_is_called_like_a_class_or_an_import(self):
        for file in files():
            tree = tree_of(file)
            taken = {node.name for node in tree.body if isinstance(node, ast.ClassDef)}
            for node in tree.body:
                if isinstance(node, ast.ImportFrom):
                    taken |= {part.name for part in node.names}
            for node in ast.walk(tree):
                at = f"{file.name}: {getattr(node, 'lineno', '')}"
                if isinstance(node, ast.arg):
                    self.assertNotIn(node.arg, taken, at)
                if isinstance(node, ast.Name) and isinstance(node.ctx, ast.Store):
                    self.assertNotIn(node.id, taken, at)

    def test_a_file_s_top_holds_plain_values_and_tables_of_its_own_functions(self):
        for file in files():
            bound = []
            for node in tree_of(file).body:
                at = f"{file.name}: {node.lineno}"
                if isinstance(node, (ast.FunctionDef, ast.ClassDef)):
                    bound.append(node.name)
                elif isinstance(node, ast.Assign):
                    for part in ast.walk(node.value):
                        plain = (ast.Constant, ast.Tuple, ast.Dict, ast.UnaryOp, ast.USub, ast.Load, ast.Name)
                        self.assertIsInstance(part, plain, at)
                        self.assertTrue(not isinstance(part, ast.Name) or part.id in bound, at)
                    bound.append(node.targets[0].id)
                else:
                    text = isinstance(node, ast.Expr) and isinstance(node.value, ast.Constant)
                    self.assertTrue(text or isinstance(node, ast.ImportFrom), at)
            self.assertEqual(len(bound), len(set(bound)), file.name)

    def test_the_interface_stands_in_its_file(self):
        defined = {}
        for file in files():
            for node in tree_of(file).body:
                if isinstance(node, (ast.FunctionDef, ast.ClassDef)):
                    defined.setdefault(node.name, []).append((file.name, node))
        self.assertEqual([place for place, _ in defined["answers"]], ["server.py"])
        arguments = defined["answers"][0][1].args
        self.assertEqual([argument.arg for argument in arguments.args], ["calls"])
        self.assertEqual(arguments.defaults, [])
