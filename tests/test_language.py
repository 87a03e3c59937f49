"""Holds the package to the rows of the language document that can be told from its form."""

import ast
import builtins
import pathlib
import re
import unittest

PACKAGE = pathlib.Path(__file__).resolve().parent.parent / "neveragain"

NAMES = set("""
    len range enumerate zip min max sum abs sorted reversed int str bool list tuple dict set
    frozenset isinstance ord repr any all divmod Exception ValueError TypeError KeyError
    IndexError LookupError ZeroDivisionError ArithmeticError OverflowError RuntimeError
    NotImplementedError AttributeError StopIteration
""".split())

METHODS = set("""
    append clear copy count endswith extend find get index insert isalnum isalpha isdigit
    islower isspace isupper items join keys ljust lower lstrip partition pop remove replace
    reverse rfind rjust rpartition rsplit rstrip setdefault split splitlines startswith strip
    update upper values zfill bit_length
""".split())

WORDS_OUT = re.compile(
    r"\b(type|typing|typing_extensions|enum|Enum|IntEnum|StrEnum|Flag|IntFlag|Generic|Protocol"
    r"|ABC|ABCMeta|namedtuple|NamedTuple|TypedDict|TYPE_CHECKING|abstractmethod)\b"
    r"|dataclass|overload|contextmanager"
)

NODES = set("""
    Module FunctionDef arguments arg ClassDef Assign AugAssign If While For Return Break Continue
    Pass Raise Try ExceptHandler Expr ImportFrom alias
    Constant Name Load Store List Tuple Dict Set BinOp UnaryOp BoolOp Compare IfExp Call keyword
    Attribute Subscript Slice ListComp comprehension JoinedStr FormattedValue Lambda
    Add Sub Mult FloorDiv Mod Pow BitAnd BitOr BitXor LShift RShift Invert USub UAdd Not And Or
    Eq NotEq Lt LtE Gt GtE Is IsNot In NotIn
""".split())

# Nowhere, neither as a name nor as a method or a value.
NAMES_OUT = set("""
    register mro elements open input version_info with_traceback add_note attrgetter breakpoint
    builtins compile copyright credits delattr dir eval exec exit gc getattr globals hasattr help
    id importlib license locals methodcaller os quit setattr super type vars sys chr
""".split())

WALKED_AT_ONCE = ("zip", "enumerate", "reversed", "range")
METHODS_WALKED_AT_ONCE = ("items", "keys", "values")
WALKERS = ("list", "tuple", "dict", "sorted", "sum", "any", "all", "enumerate", "zip", "min", "max")

TOP_NODES = (ast.ImportFrom, ast.FunctionDef, ast.ClassDef, ast.Assign)
TWO_UNDERSCORES = ("__init__", "__eq__", "__repr__", "__str__", "__len__")


def files():
    return sorted(PACKAGE.glob("*.py"))


def trees():
    return [(path.name, ast.parse(path.read_text())) for path in files()]


def method_defs(tree):
    return [
        inner
        for node in ast.walk(tree)
        if isinstance(node, ast.ClassDef)
        for inner in node.body
        if isinstance(inner, ast.FunctionDef)
    ]


def own_methods():
    return {node.name for file, tree in trees() for node in method_defs(tree)}


def bound_name(node):
    if isinstance(node, (ast.FunctionDef, ast.ClassDef)):
        return node.name
    if isinstance(node, ast.arg):
        return node.arg
    if isinstance(node, ast.Name) and isinstance(node.ctx, ast.Store):
        return node.id
    return None


def names_defined(tree):
    return [name for name in map(bound_name, tree.body) if name is not None] + [
        target.id for node in tree.body if isinstance(node, ast.Assign) for target in node.targets
    ]


def names_imported(tree):
    return [
        (node.module.split(".")[1], name.name)
        for node in tree.body
        if isinstance(node, ast.ImportFrom)
        for name in node.names
    ]


def bound_within_defs(tree):
    return [
        (inner, bound_name(inner))
        for node in ast.walk(tree)
        if isinstance(node, (ast.FunctionDef, ast.Lambda))
        for inner in ast.walk(node)
        if inner is not node and bound_name(inner) is not None
    ]


def walked_on_the_spot(tree):
    """The calls that stand where they are walked."""
    walked = []
    for node in ast.walk(tree):
        if isinstance(node, (ast.For, ast.comprehension)):
            walked.append(node.iter)
        if isinstance(node, ast.Call) and isinstance(node.func, ast.Name):
            if node.func.id in WALKERS:
                walked.extend(node.args)
    return walked


class TestLanguage(unittest.TestCase):
    def test_only_python_files_lie_in_the_package(self):
        for path in PACKAGE.iterdir():
            if path.name != "__pycache__":
                self.assertRegex(path.name, r"^[a-z0-9_]+\.py$")
        self.assertIn("__init__.py", [path.name for path in files()])

    def test_signs_and_sizes(self):
        for path in files():
            rows = path.read_bytes().decode("ascii").split("\n")
            self.assertLessEqual(len(rows), 401, path.name)
            for number, row in enumerate(rows, 1):
                where = f"{path.name}:{number}"
                self.assertLessEqual(len(row), 120, where)
                self.assertRegex(row, r"^[ -~]*$", where)
                self.assertIsNone(WORDS_OUT.search(row), where)

    def test_functions(self):
        for file, tree in trees():
            for node in ast.walk(tree):
                if isinstance(node, ast.FunctionDef):
                    where = f"{file}:{node.lineno}"
                    handed = node.args
                    self.assertLessEqual(node.end_lineno - node.lineno + 1, 40, where)
                    self.assertEqual(node.decorator_list, [], where)
                    self.assertEqual((handed.vararg, handed.kwarg), (None, None), where)
                    self.assertEqual((handed.posonlyargs, handed.kwonlyargs), ([], []), where)

    def test_the_top_of_a_file(self):
        for file, tree in trees():
            body = tree.body[1:] if ast.get_docstring(tree) is not None else tree.body
            for node in body:
                where = f"{file}:{node.lineno}"
                self.assertIsInstance(node, TOP_NODES, where)
                if isinstance(node, ast.ImportFrom):
                    self.assertEqual(node.level, 0, where)
                    self.assertRegex(node.module, r"^neveragain\.[a-z0-9_]+$", where)
                    self.assertNotIn("*", [name.name for name in node.names], where)

    def test_only_plain_forms(self):
        for file, tree in trees():
            for node in ast.walk(tree):
                where = f"{file}:{getattr(node, 'lineno', 0)}"
                self.assertIn(type(node).__name__, NODES, where)
                if isinstance(node, ast.Constant):
                    self.assertIn(type(node.value), (int, str, bool, type(None)), where)
                if isinstance(node, (ast.For, ast.While)):
                    self.assertEqual(node.orelse, [], where)
                if isinstance(node, ast.Try):
                    self.assertEqual(node.finalbody, [], where)
                if isinstance(node, ast.ListComp):
                    self.assertEqual(len(node.generators), 1, where)
                    self.assertLessEqual(len(node.generators[0].ifs), 1, where)
                if isinstance(node, ast.Assign):
                    self.assertEqual(len(node.targets), 1, where)
                    self.assertNotIsInstance(node.targets[0], (ast.Tuple, ast.List), where)
                if isinstance(node, ast.FunctionDef):
                    self.assertIsNone(node.returns, where)
                if isinstance(node, ast.arg):
                    self.assertIsNone(node.annotation, where)

    def test_a_text_by_itself_stands_at_the_top_alone(self):
        for file, tree in trees():
            top = tree.body[0]
            for node in ast.walk(tree):
                if isinstance(node, ast.Expr) and node is not top:
                    self.assertIsInstance(node.value, ast.Call, f"{file}:{node.lineno}")

    def test_is_stands_beside_none_true_and_false_alone(self):
        for file, tree in trees():
            for node in ast.walk(tree):
                if isinstance(node, ast.Compare):
                    for sign, other in zip(node.ops, node.comparators):
                        if isinstance(sign, (ast.Is, ast.IsNot)):
                            self.assertIsInstance(other, ast.Constant, f"{file}:{node.lineno}")
                            self.assertIn(other.value, (None, True, False))

    def test_powers_have_a_written_exponent(self):
        for file, tree in trees():
            for node in ast.walk(tree):
                if isinstance(node, ast.BinOp) and isinstance(node.op, ast.Pow):
                    self.assertIsInstance(node.right, ast.Constant, f"{file}:{node.lineno}")
                    self.assertIn(node.right.value, range(65), f"{file}:{node.lineno}")

    def test_texts(self):
        for file, tree in trees():
            for node in ast.walk(tree):
                if isinstance(node, ast.Constant) and isinstance(node.value, str):
                    self.assertNotIn(chr(37), node.value, f"{file}:{node.lineno}")

    def test_walked_at_once(self):
        for file, tree in trees():
            walked = walked_on_the_spot(tree)
            for node in ast.walk(tree):
                if isinstance(node, ast.Call) and isinstance(node.func, ast.Name):
                    if node.func.id in WALKED_AT_ONCE:
                        self.assertIn(node, walked, f"{file}:{node.lineno}")
                if isinstance(node, ast.Call) and isinstance(node.func, ast.Attribute):
                    if node.func.attr in METHODS_WALKED_AT_ONCE:
                        self.assertIn(node, walked, f"{file}:{node.lineno}")

    def test_sets_are_used_on_the_spot(self):
        for file, tree in trees():
            on_the_spot = []
            for node in ast.walk(tree):
                if isinstance(node, ast.Compare):
                    on_the_spot.extend([node.left] + node.comparators)
                if isinstance(node, ast.Call) and isinstance(node.func, ast.Name):
                    if node.func.id in ("sorted", "len") and node.keywords == []:
                        on_the_spot.extend(node.args)
                if isinstance(node, ast.BinOp) and node in on_the_spot:
                    on_the_spot.extend([node.left, node.right])
            for node in ast.walk(tree):
                if isinstance(node, ast.Call) and isinstance(node.func, ast.Name):
                    if node.func.id in ("set", "frozenset"):
                        self.assertIn(node, on_the_spot, f"{file}:{node.lineno}")

    def test_values_of_objects(self):
        taken = {name for kind in (str, int, list, dict, set, bytes) for name in dir(kind)}
        stored = set()
        for file, tree in trees():
            for node in ast.walk(tree):
                if isinstance(node, ast.Attribute) and isinstance(node.ctx, ast.Store):
                    self.assertIsInstance(node.value, ast.Name, f"{file}:{node.lineno}")
                    self.assertNotIn(node.attr, taken, f"{file}:{node.lineno}")
                    stored.add(node.attr)
        self.assertEqual(stored & own_methods(), set())

    def test_classes(self):
        for file, tree in trees():
            for node in ast.walk(tree):
                if isinstance(node, ast.ClassDef):
                    where = f"{file}:{node.lineno}"
                    self.assertIn(node, tree.body, where)
                    self.assertLessEqual(len(node.bases), 1, where)
                    self.assertEqual((node.keywords, node.decorator_list), ([], []), where)
                    for inner in node.body:
                        self.assertIsInstance(inner, (ast.FunctionDef, ast.Pass), where)

    def test_imports_come_from_where_a_name_is_defined_and_never_round(self):
        defined = {file[:-3]: names_defined(tree) for file, tree in trees()}
        drawn = {file[:-3]: names_imported(tree) for file, tree in trees()}
        for file, names in drawn.items():
            for module, name in names:
                self.assertIn(name, defined[module], file)
        ordered = []
        while len(ordered) < len(drawn):
            ready = [
                file for file, names in drawn.items()
                if file not in ordered and all(module in ordered for module, name in names)
            ]
            self.assertNotEqual(ready, [], "files that draw from one another")
            ordered.extend(ready)

    def test_each_name_once(self):
        for file, tree in trees():
            once = names_defined(tree) + [name for module, name in names_imported(tree)]
            self.assertEqual(len(once), len(set(once)), file)
            classes = [node.name for node in tree.body if isinstance(node, ast.ClassDef)]
            taken = classes + [name for module, name in names_imported(tree)]
            for node, name in bound_within_defs(tree):
                self.assertNotIn(name, taken, f"{file}:{node.lineno}")

    def test_names(self):
        for file, tree in trees():
            methods = method_defs(tree)
            for node in ast.walk(tree):
                where = f"{file}:{getattr(node, 'lineno', 0)}"
                if isinstance(node, ast.Name) and hasattr(builtins, node.id):
                    self.assertIn(node.id, NAMES, where)
                if isinstance(node, ast.Name):
                    self.assertNotIn(node.id, NAMES_OUT, where)
                if isinstance(node, ast.Attribute):
                    self.assertNotIn(node.attr, NAMES_OUT, where)
                name = bound_name(node)
                if name is None or name in TWO_UNDERSCORES:
                    continue
                self.assertRegex(name, r"^[A-Za-z][A-Za-z0-9_]*$", where)
                if node not in methods:
                    self.assertFalse(hasattr(builtins, name), where)

    def test_errors_are_made_on_the_spot(self):
        for file, tree in trees():
            for node in ast.walk(tree):
                if isinstance(node, ast.Raise):
                    self.assertIsInstance(node.exc, ast.Call, f"{file}:{node.lineno}")
                    self.assertIsInstance(node.exc.func, ast.Name, f"{file}:{node.lineno}")
                    self.assertEqual(node.exc.keywords, [], f"{file}:{node.lineno}")

    def test_values_at_the_top_are_plain(self):
        # Narrower than asked: no list or dict stands there at all, so none can be changed.
        for file, tree in trees():
            for node in tree.body:
                if isinstance(node, ast.Assign):
                    for inner in ast.walk(node.value):
                        self.assertIsInstance(inner, (ast.Constant, ast.Tuple, ast.Load), f"{file}:{node.lineno}")

    def test_names_of_pythons_own_are_called(self):
        for file, tree in trees():
            called = [node.func for node in ast.walk(tree) if isinstance(node, ast.Call)]
            asked = [
                inner
                for node in ast.walk(tree)
                if isinstance(node, ast.Call) and isinstance(node.func, ast.Name) and node.func.id == "isinstance"
                for inner in ast.walk(node.args[1])
            ]
            bases = [base for node in ast.walk(tree) if isinstance(node, ast.ClassDef) for base in node.bases]
            for node in ast.walk(tree):
                if isinstance(node, ast.Name) and hasattr(builtins, node.id):
                    self.assertIn(node, called + asked + bases, f"{file}:{node.lineno}")

    def test_no_keywords_are_handed_to_pythons_own(self):
        for file, tree in trees():
            for node in ast.walk(tree):
                if isinstance(node, ast.Call) and isinstance(node.func, (ast.Name, ast.Attribute)):
                    own = isinstance(node.func, ast.Name) and not hasattr(builtins, node.func.id)
                    self.assertTrue(own or node.keywords == [], f"{file}:{node.lineno}")

    def test_called_methods(self):
        known = METHODS | own_methods() | set(TWO_UNDERSCORES)
        for file, tree in trees():
            for node in ast.walk(tree):
                if isinstance(node, ast.Call) and isinstance(node.func, ast.Attribute):
                    self.assertIn(node.func.attr, known, f"{file}:{node.lineno}")


if __name__ == "__main__":
    unittest.main()
