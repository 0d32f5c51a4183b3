"""The package keeps to the small part of Python that is allowed to it."""

import ast
import builtins
import pathlib
import re
import unittest

PACKAGE = pathlib.Path(__file__).resolve().parent.parent / "cacheguess"

NODES = (
    "Module FunctionDef ClassDef arguments arg Return Assign AugAssign For While If Raise Try ExceptHandler Expr Pass "
    "Break Continue BoolOp And Or BinOp Add Sub Mult FloorDiv Mod Pow LShift RShift BitOr BitXor BitAnd UnaryOp Invert "
    "Not USub UAdd Lambda IfExp Dict List Tuple ListComp comprehension Compare Eq NotEq Lt LtE Gt GtE Is IsNot In NotIn "
    "Call keyword JoinedStr FormattedValue Constant Attribute Subscript Slice Name Load Store ImportFrom alias"
).split()

OWN_NAMES = (
    "len range enumerate zip min max sum abs sorted reversed int str bool list tuple dict set frozenset isinstance ord "
    "repr any all divmod Exception ValueError TypeError KeyError IndexError LookupError ZeroDivisionError "
    "ArithmeticError OverflowError RuntimeError NotImplementedError AttributeError StopIteration"
).split()

OWN_METHODS = (
    "append clear copy count endswith extend find get index insert isalnum isalpha isdigit islower isspace isupper items "
    "join keys ljust lower lstrip partition pop remove replace reverse rfind rjust rpartition rsplit rstrip setdefault "
    "split splitlines startswith strip update upper values zfill bit_length"
).split()

WALKED_AT_ONCE = ("zip", "enumerate", "reversed", "range")

WORDS = re.compile(
    r"\b(type|typing|typing_extensions|enum|Enum|IntEnum|StrEnum|Flag|IntFlag|Generic|Protocol|ABC|ABCMeta|namedtuple|"
    r"NamedTuple|TypedDict|TYPE_CHECKING|abstractmethod)\b|dataclass|overload|contextmanager"
)

NOT_USED = "register mro elements open input version_info with_traceback add_note format format_map".split()

TAKEN_NAMES = set(dir(builtins))
TAKEN_VALUES = {name for kind in (str, int, list, dict, set, bytes, tuple) for name in dir(kind)}
FREE_VALUES = {"count", "index", "title", "find", "get", "join", "lower", "upper", "split", "strip", "copy", "add"}


def files():
    return sorted(PACKAGE.glob("*.py"))


def trees():
    return [(path, ast.parse(path.read_text("utf-8"))) for path in files()]


def nodes(*kinds):
    return [(path, node) for path, tree in trees() for node in ast.walk(tree) if isinstance(node, kinds)]


def attributes_stored():
    return {node.attr for path, node in nodes(ast.Attribute) if isinstance(node.ctx, ast.Store)}


def methods():
    return {
        one.name for path, node in nodes(ast.ClassDef) for one in node.body if isinstance(one, ast.FunctionDef)
    }


class Files(unittest.TestCase):
    def test_only_py_files_with_plain_names(self):
        names = [path.name for path in PACKAGE.iterdir() if path.name != "__pycache__"]
        self.assertIn("__init__.py", names)
        for name in names:
            self.assertRegex(name, r"^(__init__|[a-z][a-z0-9_]*)\.py$")
            self.assertNotIn(name[:-3], TAKEN_NAMES)
            self.assertNotRegex(name, r"^(test|site|conftest|sitecustomize|usercustomize)")

    def test_sizes_and_signs(self):
        for path in files():
            text = path.read_bytes().decode("ascii")
            rows = text.split("\n")
            self.assertLessEqual(len(rows), 400, path)
            self.assertLessEqual(max(len(row) for row in rows), 120, path)
            self.assertTrue(all(sign == "\n" or " " <= sign <= "~" for sign in text), path)
            self.assertIsNone(WORDS.search(text), path)

    def test_small_functions(self):
        for path, node in nodes(ast.FunctionDef):
            self.assertLessEqual(node.end_lineno - node.lineno + 1, 40, (path, node.name))


class Form(unittest.TestCase):
    def test_only_what_is_allowed(self):
        for path, node in nodes(ast.AST):
            self.assertIn(type(node).__name__, NODES, (path, getattr(node, "lineno", 0)))

    def test_the_top_of_a_file(self):
        for path, tree in trees():
            bound = []
            self.assertIsNotNone(ast.get_docstring(tree), path)
            for node in tree.body[1:]:
                self.assertIsInstance(node, (ast.ImportFrom, ast.FunctionDef, ast.ClassDef, ast.Assign), path)
                if isinstance(node, ast.Assign):
                    ast.literal_eval(node.value)
                    bound.append(node.targets[0].id)
                elif isinstance(node, ast.ImportFrom):
                    bound += [one.name for one in node.names]
                else:
                    bound.append(node.name)
            self.assertEqual(len(bound), len(set(bound)), path)

    def test_imports(self):
        drawn = {}
        for path, node in nodes(ast.ImportFrom):
            self.assertEqual((node.level, node.module.split(".")[0]), (0, "cacheguess"), path)
            target = PACKAGE / (node.module.split(".")[1] + ".py")
            defined = ast.parse(target.read_text("utf-8")).body
            names = [getattr(one, "name", None) or one.targets[0].id for one in defined if not isinstance(
                one, (ast.ImportFrom, ast.Expr))]
            for one in node.names:
                self.assertIn(one.name, names, path)
                self.assertIsNone(one.asname, path)
            drawn.setdefault(path.name, set()).add(target.name)
        while drawn:
            ready = [name for name in drawn if not drawn[name] & set(drawn)]
            self.assertTrue(ready, f"files that draw from one another: {sorted(drawn)}")
            drawn = {name: drawn[name] for name in drawn if name not in ready}

    def test_plain_functions(self):
        for path, node in nodes(ast.FunctionDef, ast.Lambda):
            given = node.args
            self.assertFalse(given.vararg or given.kwarg or given.kwonlyargs or given.posonlyargs, path)
            self.assertFalse([one for one in given.args if one.annotation], path)
            self.assertFalse(getattr(node, "decorator_list", []) or getattr(node, "returns", None), path)

    def test_plain_classes(self):
        for path, node in nodes(ast.ClassDef):
            self.assertFalse(node.decorator_list or node.keywords, path)
            names = [one.name for one in node.body if isinstance(one, ast.FunctionDef)]
            self.assertEqual(len(names), len(node.body), (path, node.name))
            self.assertEqual(len(names), len(set(names)), (path, node.name))

    def test_plain_statements(self):
        for path, tree in trees():
            docstring = tree.body[0]
            for node in ast.walk(tree):
                where = (path, getattr(node, "lineno", 0))
                if isinstance(node, ast.Expr) and node is not docstring:
                    self.assertIsInstance(node.value, ast.Call, where)
                if isinstance(node, ast.Assign):
                    self.assertEqual(len(node.targets), 1, where)
                    self.assertNotIsInstance(node.targets[0], (ast.Tuple, ast.List), where)
                if isinstance(node, (ast.For, ast.While)):
                    self.assertEqual(node.orelse, [], where)
                if isinstance(node, ast.ListComp):
                    self.assertEqual(len(node.generators), 1, where)
                    self.assertLessEqual(len(node.generators[0].ifs), 1, where)

    def test_plain_values(self):
        for path, node in nodes(ast.Constant):
            self.assertIn(type(node.value), (int, str, bool, type(None)), (path, node.lineno))
        for path, node in nodes(ast.BinOp):
            if isinstance(node.op, ast.Pow):
                self.assertIsInstance(node.right, ast.Constant, (path, node.lineno))
        for path, node in nodes(ast.Compare):
            for sign, right in zip(node.ops, node.comparators):
                if isinstance(sign, (ast.Is, ast.IsNot)):
                    self.assertIn(getattr(right, "value", 0), (None, True, False), (path, node.lineno))

    def test_walked_at_once(self):
        for path, tree in trees():
            walked = set()
            for node in ast.walk(tree):
                if isinstance(node, (ast.For, ast.comprehension)):
                    walked.add(node.iter)
                if isinstance(node, ast.Call) and isinstance(node.func, ast.Name) and node.args:
                    walked.add(node.args[0])
            for node in ast.walk(tree):
                if isinstance(node, ast.Call) and isinstance(node.func, ast.Name) and node.func.id in WALKED_AT_ONCE:
                    self.assertIn(node, walked, (path, node.lineno))


class Names(unittest.TestCase):
    def test_names_that_are_bound(self):
        bound = [(path, node.id) for path, node in nodes(ast.Name) if isinstance(node.ctx, ast.Store)]
        bound += [(path, node.arg) for path, node in nodes(ast.arg)]
        bound += [(path, node.name) for path, node in nodes(ast.FunctionDef, ast.ClassDef) if node.name != "__init__"]
        for path, name in bound:
            self.assertRegex(name, r"^[A-Za-z][A-Za-z0-9_]*$", path)
            self.assertNotIn(name, NOT_USED, path)
        for path, name in bound:
            self.assertNotIn(name, TAKEN_NAMES, path)

    def test_locals_are_not_called_like_classes_or_imports(self):
        for path, tree in trees():
            tops = {node.name for node in tree.body if isinstance(node, (ast.ClassDef, ast.FunctionDef))}
            tops |= {one.name for node in tree.body if isinstance(node, ast.ImportFrom) for one in node.names}
            names = {node.id for node in ast.walk(tree) if isinstance(node, ast.Name) and isinstance(node.ctx, ast.Store)}
            names |= {node.arg for node in ast.walk(tree) if isinstance(node, ast.arg)}
            self.assertEqual(tops & names, set(), path)

    def test_pythons_own_names(self):
        for path, node in nodes(ast.Name):
            if node.id in TAKEN_NAMES:
                self.assertIn(node.id, OWN_NAMES, (path, node.lineno))

    def test_values_and_methods_of_objects(self):
        self.assertEqual(attributes_stored() & methods(), set())
        self.assertEqual(attributes_stored() & (TAKEN_VALUES - FREE_VALUES), set())
        self.assertEqual((methods() - {"__init__"}) & (TAKEN_VALUES - set(OWN_METHODS)), set())
        self.assertEqual((attributes_stored() | methods()) & set(NOT_USED), set())

    def test_every_attribute_is_known(self):
        known = attributes_stored() | methods() | set(OWN_METHODS)
        for path, node in nodes(ast.Attribute):
            self.assertIn(node.attr, known, (path, node.lineno))

    def test_keywords_at_calls(self):
        for path, node in nodes(ast.Call):
            self.assertEqual(node.keywords, [], (path, node.lineno))

    def test_what_a_file_keeps_is_never_a_list_or_dict(self):
        for path, tree in trees():
            for node in tree.body:
                if isinstance(node, ast.Assign):
                    kinds = {type(one) for one in ast.walk(node.value)}
                    self.assertFalse(kinds & {ast.List, ast.Dict}, path)


if __name__ == "__main__":
    unittest.main()
