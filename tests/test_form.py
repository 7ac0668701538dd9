"""The package's own files keep to the part of Python that the program may use, as far as a test can see it."""

import ast
import builtins
import pathlib
import re
import unittest

PACKAGE = pathlib.Path(__file__).resolve().parent.parent / "truerefs"

NODES = """Module Expr Assign AugAssign If While For Return Break Continue Pass Raise Try ExceptHandler FunctionDef
ClassDef arguments arg ImportFrom alias Lambda Constant Name Load Store List Tuple Dict Set ListComp comprehension
BinOp UnaryOp BoolOp Compare IfExp Call keyword Attribute Subscript Slice JoinedStr FormattedValue Add Sub Mult
FloorDiv Mod Pow LShift RShift BitOr BitAnd BitXor Invert Not USub UAdd And Or Eq NotEq Lt LtE Gt GtE In NotIn Is
IsNot""".split()

BUILTINS = """len range enumerate zip min max sum abs sorted reversed int str bool list tuple dict set frozenset isinstance
ord repr any all divmod Exception ValueError TypeError KeyError IndexError LookupError ZeroDivisionError
ArithmeticError OverflowError RuntimeError NotImplementedError AttributeError StopIteration""".split()

METHODS = """append clear copy count endswith extend find get index insert isalnum isalpha isdigit islower isspace isupper
items join keys ljust lower lstrip partition pop remove replace reverse rfind rjust rpartition rsplit rstrip setdefault
split splitlines startswith strip update upper values zfill bit_length""".split()

SPECIAL_METHODS = ("__init__", "__eq__", "__repr__", "__str__", "__len__")

WORDS = re.compile(r"\b(type|typing|typing_extensions|enum|Enum|IntEnum|StrEnum|Flag|IntFlag|Generic|Protocol|ABC|ABCMeta"
                   r"|namedtuple|NamedTuple|TypedDict|TYPE_CHECKING|abstractmethod)\b|dataclass|overload|contextmanager")

NOWHERE = "register mro elements open input version_info with_traceback add_note format format_map".split()


def sources():
    return {path: path.read_bytes().decode("utf-8") for path in sorted(PACKAGE.rglob("*.py"))}


def nodes(*kinds):
    """Each node of these kinds, with its file's name for the message."""
    return [(f"{path.name}:{getattr(node, 'lineno', 0)}", node) for path, text in sources().items()
            for node in ast.walk(ast.parse(text)) if isinstance(node, kinds)]


def bound_names():
    found = []
    for where, node in nodes(ast.Name, ast.arg, ast.FunctionDef, ast.ClassDef, ast.ExceptHandler, ast.alias):
        if isinstance(node, ast.Name):
            if isinstance(node.ctx, ast.Store):
                found.append((where, node.id))
        elif isinstance(node, ast.arg):
            found.append((where, node.arg))
        elif isinstance(node, ast.alias):
            found.append((where, node.asname or node.name))
        elif node.name:
            found.append((where, node.name))
    return found


def own_methods():
    return [part.name for where, node in nodes(ast.ClassDef) for part in node.body if isinstance(part, ast.FunctionDef)]


class Files(unittest.TestCase):
    def test_only_plainly_named_modules_lie_in_the_package(self):
        for path in PACKAGE.rglob("*"):
            if "__pycache__" not in path.parts:
                self.assertTrue(path.is_dir() or path.suffix == ".py", path)
                self.assertRegex(path.stem, r"^([a-z][a-z0-9_]*|__init__|__main__)$")
                self.assertNotIn(path.stem, dir(builtins))
                self.assertNotRegex(path.stem, r"^(test|tests|testing|test_.*|site|conftest)$")
        self.assertTrue((PACKAGE / "__init__.py").is_file())

    def test_signs_and_sizes(self):
        for path, text in sources().items():
            lines = text.split("\n")
            self.assertRegex(text, r"\A[ -~\n]*\Z", path)
            self.assertLessEqual(len(lines), 400, path)
            self.assertLessEqual(max(len(line) for line in lines), 120, path)
            self.assertIsNone(WORDS.search(text), path)
        for where, node in nodes(ast.FunctionDef):
            self.assertLessEqual(node.end_lineno - node.lineno + 1, 40, where)


class Imports(unittest.TestCase):
    def test_names_of_the_package_alone_from_where_they_are_defined(self):
        drawn = {}
        for path, text in sources().items():
            drawn[path.stem] = []
            for node in ast.walk(ast.parse(text)):
                if isinstance(node, ast.ImportFrom):
                    self.assertEqual((node.level, node.module.split(".")[0]), (0, "truerefs"), path)
                    source = PACKAGE.joinpath(*node.module.split(".")[1:]).with_suffix(".py")
                    for name in node.names:
                        self.assertRegex(source.read_text(), rf"(?m)^((def|class) {name.name}\b|{name.name} = )")
                    drawn[path.stem].append(source.stem)
        while drawn:
            free = [name for name in drawn if not set(drawn[name]) & set(drawn)]
            self.assertNotEqual(free, [], "files that draw from one another")
            drawn = {name: drawn[name] for name in drawn if name not in free}


class Language(unittest.TestCase):
    def test_kinds_of_nodes(self):
        for where, node in nodes(ast.AST):
            self.assertIn(node.__class__.__name__, NODES, where)

    def test_the_top_of_a_module(self):
        for where, node in nodes(ast.Module):
            for part in node.body:
                is_docstring = part is node.body[0] and isinstance(part, ast.Expr)
                allowed = (ast.ImportFrom, ast.FunctionDef, ast.ClassDef, ast.Assign)
                self.assertTrue(is_docstring or isinstance(part, allowed), where)

    def test_functions_and_classes(self):
        for where, node in nodes(ast.FunctionDef, ast.ClassDef):
            self.assertEqual(node.decorator_list, [], where)
        for where, node in nodes(ast.arguments):
            self.assertEqual((node.vararg, node.kwarg, node.kwonlyargs, node.posonlyargs), (None, None, [], []), where)
        for where, node in nodes(ast.ClassDef):
            self.assertLessEqual(len(node.bases), 1, where)
            for part in node.body:
                self.assertIsInstance(part, (ast.FunctionDef, ast.Expr, ast.Pass), where)

    def test_statements(self):
        for where, node in nodes(ast.Assign):
            self.assertEqual(len(node.targets), 1, where)
        for where, node in nodes(ast.For, ast.While):
            self.assertEqual(node.orelse, [], where)
        for where, node in nodes(ast.ListComp):
            self.assertEqual(len(node.generators), 1, where)
            self.assertLessEqual(len(node.generators[0].ifs), 1, where)

    def test_values(self):
        for where, node in nodes(ast.Constant):
            self.assertIn(node.value.__class__, (int, str, bool, None.__class__), where)
            self.assertFalse(isinstance(node.value, str) and "%" in node.value, where)
        for where, node in nodes(ast.Compare):
            if isinstance(node.ops[0], (ast.Is, ast.IsNot)):
                self.assertIn(getattr(node.comparators[0], "value", 0), (None, True, False), where)

    def test_bound_names(self):
        for where, name in bound_names():
            if name not in SPECIAL_METHODS:
                self.assertRegex(name, r"^[A-Za-z][A-Za-z0-9_]*$", where)
                self.assertNotIn(name, dir(builtins), where)
                self.assertNotIn(name, NOWHERE, where)

    def test_nothing_is_called_like_an_import_or_a_class_of_its_file(self):
        for path, text in sources().items():
            walked = list(ast.walk(ast.parse(text)))
            taken = [name.name for node in walked if isinstance(node, ast.ImportFrom) for name in node.names]
            taken += [node.name for node in walked if isinstance(node, ast.ClassDef)]
            local = [node.arg for node in walked if isinstance(node, ast.arg)]
            local += [node.id for node in walked if isinstance(node, ast.Name) and isinstance(node.ctx, ast.Store)]
            self.assertEqual(set(taken) & set(local), set(), path)

    def test_names_of_pythons_own(self):
        for where, node in nodes(ast.Name):
            if node.id in dir(builtins):
                self.assertIn(node.id, BUILTINS, where)

    def test_methods_and_values_of_objects(self):
        values = [node.attr for where, node in nodes(ast.Attribute) if isinstance(node.ctx, ast.Store)]
        methods = own_methods()
        self.assertEqual(set(values) & set(methods), set())
        for where, node in nodes(ast.Attribute):
            self.assertIn(node.attr, values + methods + METHODS, where)
            self.assertNotIn(node.attr, NOWHERE, where)
        for where, node in nodes(ast.Call):
            if isinstance(node.func, ast.Attribute):
                self.assertIn(node.func.attr, methods + METHODS, where)
        taken = [name for kind in (str, int, list, dict, set, bytes, tuple) for name in dir(kind)]
        for name in values + methods:
            self.assertTrue(name not in taken or name in SPECIAL_METHODS, name)


if __name__ == "__main__":
    unittest.main()
