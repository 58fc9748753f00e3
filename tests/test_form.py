"""The form of the package's own files: the rules of the language that a test can see."""

import ast
import builtins
import pathlib
import re
import unittest

PACKAGE = pathlib.Path(__file__).resolve().parent.parent / "losslook"
OWN_NAMES = set(
    "len range enumerate zip min max sum abs sorted reversed int str bool list tuple dict set frozenset isinstance ord "
    "repr any all divmod Exception ValueError TypeError KeyError IndexError LookupError ZeroDivisionError "
    "ArithmeticError OverflowError RuntimeError NotImplementedError AttributeError StopIteration".split())
OWN_METHODS = set(
    "append clear copy count endswith extend find get index insert isalnum isalpha isdigit islower isspace isupper "
    "items join keys ljust lower lstrip partition pop remove replace reverse rfind rjust rpartition rsplit rstrip "
    "setdefault split splitlines startswith strip update upper values zfill bit_length".split())
UNUSED_NAMES = set(
    "register mro elements open input version_info with_traceback add_note attrgetter breakpoint builtins compile "
    "copyright credits delattr dir eval exec exit gc getattr globals hasattr help id importlib license locals "
    "methodcaller os quit setattr super type vars sys format format_map".split())
UNUSED_WORDS = (r"\b(type|typing|typing_extensions|enum|Enum|IntEnum|StrEnum|Flag|IntFlag|Generic|Protocol|ABC|ABCMeta|"
                r"namedtuple|NamedTuple|TypedDict|TYPE_CHECKING|abstractmethod)\b|dataclass|overload|contextmanager")
NODES = set(
    "Module FunctionDef arguments arg ClassDef ImportFrom alias Assign AugAssign If While For Return Break Continue "
    "Pass Raise Try ExceptHandler Expr Call Constant List Tuple Dict BinOp UnaryOp BoolOp Compare IfExp Attribute "
    "Subscript Slice ListComp comprehension JoinedStr FormattedValue Lambda Name Load Store keyword And Or Not USub "
    "Invert Add Sub Mult FloorDiv Mod Pow LShift RShift BitOr BitXor BitAnd Eq NotEq Lt LtE Gt GtE Is IsNot In "
    "NotIn".split())


def files():
    return sorted(PACKAGE.glob("*.py"))


def nodes(kind=ast.AST):
    for path in files():
        for node in ast.walk(ast.parse(path.read_text())):
            if isinstance(node, kind):
                yield path.name, node


class Form(unittest.TestCase):
    def test_files(self):
        names = {path.name for path in PACKAGE.iterdir()} - {"__pycache__"}
        self.assertEqual(names, {path.name for path in files()})
        self.assertIn("__init__.py", names)
        self.assertNotEqual(len(names), 1)

    def test_signs_and_sizes(self):
        for path in files():
            text = path.read_bytes().decode("ascii")
            self.assertIsNone(re.search(r"[^\n -~]", text), path.name)
            self.assertIsNone(re.search(UNUSED_WORDS, text), path.name)
            self.assertLessEqual(len(text.splitlines()), 400)
            self.assertLessEqual(max(map(len, text.splitlines())), 120)
        for name, node in nodes(ast.FunctionDef):
            self.assertLessEqual(node.end_lineno - node.lineno + 1, 40, (name, node.name))

    def test_statements_and_expressions(self):
        for name, node in nodes():
            self.assertIn(type(node).__name__, NODES, (name, getattr(node, "lineno", None)))
        for name, node in nodes((ast.For, ast.While)):
            self.assertEqual(node.orelse, [])
        for name, node in nodes(ast.Assign):
            self.assertEqual(len(node.targets), 1)
        for name, node in nodes(ast.ListComp):
            self.assertEqual(len(node.generators), 1)
            self.assertLessEqual(len(node.generators[0].ifs), 1)
        for name, node in nodes(ast.Try):
            self.assertEqual(node.finalbody, [])
        for name, node in nodes(ast.Constant):
            self.assertIn(type(node.value), (int, str, bool, type(None)))
        for name, node in nodes(ast.BinOp):
            if isinstance(node.op, ast.Pow):
                self.assertIsInstance(node.right, ast.Constant)

    def test_imports(self):
        for name, node in nodes(ast.ImportFrom):
            self.assertEqual(node.level, 0)
            self.assertTrue(node.module.startswith("losslook."), name)
            self.assertTrue((PACKAGE / (node.module.split(".")[1] + ".py")).exists())
            defined = ast.parse((PACKAGE / (node.module.split(".")[1] + ".py")).read_text()).body
            bound = {each.name for each in defined if isinstance(each, (ast.ClassDef, ast.FunctionDef))}
            bound |= {each.targets[0].id for each in defined if isinstance(each, ast.Assign)}
            for alias in node.names:
                self.assertIn(alias.name, bound, name)
                self.assertIsNone(alias.asname, name)

    def test_names(self):
        for name, node in nodes((ast.Name, ast.arg, ast.Attribute, ast.FunctionDef, ast.ClassDef)):
            word = getattr(node, "id", None) or getattr(node, "arg", None) or getattr(node, "attr", None) or node.name
            self.assertNotIn(word, UNUSED_NAMES, name)
            if word == "__init__":
                continue
            self.assertRegex(word, r"\A[A-Za-z][A-Za-z0-9_]*\Z", name)
            if hasattr(builtins, word) and not isinstance(node, ast.Attribute):
                self.assertIn(word, OWN_NAMES, name)
                self.assertIsInstance(node, ast.Name, (name, word))
                self.assertIsInstance(node.ctx, ast.Load, (name, word))

    def test_methods_and_values(self):
        methods = {each.name for name, node in nodes(ast.ClassDef) for each in node.body
                   if isinstance(each, ast.FunctionDef)} - {"__init__"}
        values = {node.attr for name, node in nodes(ast.Attribute) if isinstance(node.ctx, ast.Store)}
        self.assertEqual(methods & values, set())
        own = {word for kind in (str, int, list, dict, set, bytes, tuple) for word in dir(kind)}
        self.assertEqual((methods | values) & own, set())
        for name, node in nodes(ast.Attribute):
            self.assertIn(node.attr, OWN_METHODS | methods | values, name)

    def test_no_annotations(self):
        for name, node in nodes(ast.FunctionDef):
            self.assertIsNone(node.returns)
            self.assertEqual(node.decorator_list, [])
            arguments = node.args
            self.assertEqual((arguments.vararg, arguments.kwarg, arguments.kwonlyargs, arguments.posonlyargs),
                             (None, None, [], []))
            self.assertEqual([each.annotation for each in arguments.args], [None] * len(arguments.args))

    def test_the_top_of_each_file(self):
        for path in files():
            body = ast.parse(path.read_text()).body
            self.assertIsNotNone(ast.get_docstring(ast.parse(path.read_text())), path.name)
            bound = []
            for node in body[1:]:
                self.assertIsInstance(node, (ast.ImportFrom, ast.FunctionDef, ast.ClassDef, ast.Assign), path.name)
                if isinstance(node, ast.Assign):
                    bound.append(node.targets[0].id)
                    for each in ast.walk(node.value):
                        self.assertIsInstance(each, (ast.Constant, ast.Tuple, ast.Name, ast.UnaryOp, ast.USub, ast.Load))
                        if isinstance(each, ast.Name):
                            self.assertIn(each.id, bound)
                elif isinstance(node, ast.ImportFrom):
                    bound.extend(alias.name for alias in node.names)
                else:
                    bound.append(node.name)
            self.assertEqual(len(bound), len(set(bound)), path.name)

    def test_no_two_files_draw_from_one_another(self):
        drawn = {path.stem: {node.module.split(".")[1] for node in ast.walk(ast.parse(path.read_text()))
                             if isinstance(node, ast.ImportFrom)} for path in files()}
        while drawn:
            free = [name for name in drawn if not drawn[name] & set(drawn)]
            self.assertNotEqual(free, [], drawn)
            for name in free:
                drawn.pop(name)

    def test_texts(self):
        for name, node in nodes(ast.Constant):
            if isinstance(node.value, str):
                self.assertNotIn("%", node.value, name)

    def test_is(self):
        for name, node in nodes(ast.Compare):
            for operator, right in zip(node.ops, node.comparators):
                if isinstance(operator, (ast.Is, ast.IsNot)):
                    self.assertIn(ast.unparse(right), ("None", "True", "False"))

    def test_locals_and_imports_differ(self):
        for path in files():
            tree = ast.parse(path.read_text())
            taken = {alias.name for node in tree.body if isinstance(node, ast.ImportFrom) for alias in node.names}
            taken |= {node.name for node in tree.body if isinstance(node, (ast.ClassDef, ast.FunctionDef))}
            for node in ast.walk(tree):
                if isinstance(node, ast.Name) and isinstance(node.ctx, ast.Store):
                    self.assertNotIn(node.id, taken, path.name)
                if isinstance(node, ast.arg):
                    self.assertNotIn(node.arg, taken, path.name)


if __name__ == "__main__":
    unittest.main()
