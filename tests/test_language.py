"""The package's files keep to the part of Python that the program is written in, as far as a short look can tell."""

import ast
import builtins
import pathlib
import re
import unittest

PACKAGE = pathlib.Path(__file__).resolve().parent.parent / "fieldsquares"

NODES = """
    Module FunctionDef arguments arg ClassDef Return Assign AugAssign For While If Raise Try ExceptHandler
    ImportFrom alias Expr Pass Break Continue BoolOp And Or BinOp Add Sub Mult FloorDiv Mod Pow LShift RShift
    BitOr BitXor BitAnd UnaryOp Not USub Invert Lambda IfExp Dict List Tuple Set ListComp comprehension Compare
    Eq NotEq Lt LtE Gt GtE Is IsNot In NotIn Call keyword FormattedValue JoinedStr Constant Attribute Subscript
    Slice Name Load Store
""".split()

OWN_NAMES = """
    len range enumerate zip min max sum abs sorted reversed int str bool list tuple dict set frozenset isinstance
    ord repr any all divmod Exception ValueError TypeError KeyError IndexError LookupError ZeroDivisionError
    ArithmeticError OverflowError RuntimeError NotImplementedError AttributeError StopIteration
""".split()

WORDS_LEFT_OUT = r"""
    \b(type|typing|typing_extensions|enum|Enum|IntEnum|StrEnum|Flag|IntFlag|Generic|Protocol|ABC|ABCMeta|namedtuple|
    NamedTuple|TypedDict|TYPE_CHECKING|abstractmethod)\b|dataclass|overload|contextmanager
"""

METHODS = """
    append clear copy count endswith extend find get index insert isalnum isalpha isdigit islower isspace isupper
    items join keys ljust lower lstrip partition pop remove replace reverse rfind rjust rpartition rsplit rstrip
    setdefault split splitlines startswith strip update upper values zfill bit_length
""".split()

WALKED = ("zip", "enumerate", "reversed", "range", "items", "keys", "values")
WALKERS = ("list", "tuple", "dict", "sorted", "sum", "any", "all", "enumerate", "zip", "min", "max")


def sources():
    return {path: path.read_text(encoding="utf-8") for path in sorted(PACKAGE.glob("*.py"))}


def nodes():
    for path, source in sources().items():
        for node in ast.walk(ast.parse(source)):
            yield f"{path.name}:{getattr(node, 'lineno', 0)}", node


def called(node):
    """What a call calls: a name, or the method of a value."""
    return node.func.id if isinstance(node.func, ast.Name) else node.func.attr


def imports_of(tree):
    found = [node for node in ast.walk(tree) if isinstance(node, ast.ImportFrom)]
    return [(node.module, name.name) for node in found for name in node.names]


def defined_in(tree):
    found = []
    for node in tree.body:
        if isinstance(node, (ast.FunctionDef, ast.ClassDef)):
            found.append(node.name)
        elif isinstance(node, ast.Assign):
            found.extend(target.id for target in node.targets)
    return found


class Language(unittest.TestCase):
    def test_files(self):
        for path in PACKAGE.rglob("*"):
            if "__pycache__" not in path.parts:
                self.assertRegex(path.name, r"^(__init__|[a-z][a-z0-9_]*)\.py$")

    def test_signs_words_and_sizes(self):
        left_out = re.compile(WORDS_LEFT_OUT, re.VERBOSE)
        for path, source in sources().items():
            self.assertRegex(source, r"\A[ -~\n]*\Z", path.name)
            self.assertIsNone(left_out.search(source), path.name)
            lines = source.split("\n")
            self.assertLessEqual(len(lines), 400, path.name)
            self.assertLessEqual(max(len(line) for line in lines), 120, path.name)

    def test_statements_and_expressions(self):
        for where, node in nodes():
            self.assertIn(node.__class__.__name__, NODES, where)
            if isinstance(node, ast.ListComp):
                self.assertEqual(len(node.generators), 1, where)
            if isinstance(node, (ast.For, ast.While)):
                self.assertEqual(node.orelse, [], where)
            if isinstance(node, ast.Constant):
                self.assertNotIsInstance(node.value, (float, bytes, complex), where)
                self.assertFalse(isinstance(node.value, str) and "%" in node.value, where)

    def test_imports(self):
        for where, node in nodes():
            if isinstance(node, ast.ImportFrom):
                self.assertEqual(node.level, 0, where)
                self.assertTrue(node.module.startswith("fieldsquares."), where)
                self.assertNotIn("*", [name.name for name in node.names], where)

    def test_a_name_is_drawn_from_the_file_that_defines_it(self):
        trees = {f"fieldsquares.{path.stem}": ast.parse(source) for path, source in sources().items()}
        for module, tree in trees.items():
            names = defined_in(tree)
            self.assertEqual(len(names), len(set(names)), module)
            for drawn, name in imports_of(tree):
                self.assertIn(name, defined_in(trees[drawn]), module)

    def test_no_two_files_draw_from_one_another(self):
        trees = {f"fieldsquares.{path.stem}": ast.parse(source) for path, source in sources().items()}
        left = {module: {drawn for drawn, _ in imports_of(tree)} for module, tree in trees.items()}
        while left:
            free = [module for module, drawn in left.items() if not drawn & set(left)]
            self.assertTrue(free, left)
            for module in free:
                del left[module]

    def test_no_local_is_called_like_an_import_or_a_class(self):
        for path, source in sources().items():
            tree = ast.parse(source)
            taken = {name for _, name in imports_of(tree)}
            taken |= {node.name for node in ast.walk(tree) if isinstance(node, ast.ClassDef)}
            for node in ast.walk(tree):
                if isinstance(node, ast.Name) and isinstance(node.ctx, ast.Store):
                    self.assertNotIn(node.id, taken, f"{path.name}:{node.lineno}")
                if isinstance(node, ast.arg):
                    self.assertNotIn(node.arg, taken, f"{path.name}:{node.lineno}")

    def test_methods_and_exponents_and_is(self):
        own = [node.name for _, node in nodes() if isinstance(node, ast.FunctionDef)]
        for where, node in nodes():
            if isinstance(node, ast.Call) and isinstance(node.func, ast.Attribute):
                self.assertIn(node.func.attr, METHODS + own, where)
            if isinstance(node, ast.BinOp) and isinstance(node.op, ast.Pow):
                self.assertIsInstance(node.right, ast.Constant, where)
            if isinstance(node, ast.Compare) and isinstance(node.ops[0], (ast.Is, ast.IsNot)):
                self.assertIn(node.comparators[0].value, (None, True, False), where)

    def test_walked_at_once(self):
        fine = set()
        for path, source in sources().items():
            tree = ast.parse(source)
            for node in ast.walk(tree):
                if isinstance(node, (ast.For, ast.comprehension)):
                    fine.add(node.iter)
                if isinstance(node, ast.Call) and called(node) in WALKERS and node.args:
                    fine.add(node.args[0])
                if isinstance(node, ast.Call) and called(node) in WALKED:
                    self.assertIn(node, fine, f"{path.name}:{node.lineno}")

    def test_what_a_file_s_top_holds_is_not_changed(self):
        for path, source in sources().items():
            tree = ast.parse(source)
            held = [name for name in defined_in(tree) if name.isupper()]
            held += [name for _, name in imports_of(tree) if name.isupper()]
            for node in ast.walk(tree):
                where = f"{path.name}:{getattr(node, 'lineno', 0)}"
                if isinstance(node, ast.Subscript) and isinstance(node.ctx, ast.Store):
                    self.assertNotIn(getattr(node.value, "id", ""), held, where)
                if isinstance(node, ast.Call) and isinstance(node.func, ast.Attribute):
                    if getattr(node.func.value, "id", "") in held:
                        self.assertIn(node.func.attr, ("index", "get", "count", "items", "keys", "values"), where)

    def test_functions(self):
        for where, node in nodes():
            if isinstance(node, ast.FunctionDef):
                self.assertLessEqual(node.end_lineno - node.lineno + 1, 40, where)
                self.assertEqual(node.decorator_list, [], where)
                self.assertIsNone(node.args.vararg or node.args.kwarg, where)

    def test_names(self):
        for where, node in nodes():
            name = ""
            if isinstance(node, ast.Name):
                name = node.id
                if isinstance(node.ctx, ast.Load) and hasattr(builtins, name):
                    self.assertIn(name, OWN_NAMES, where)
                if isinstance(node.ctx, ast.Store):
                    self.assertFalse(hasattr(builtins, name), where)
            if isinstance(node, ast.arg):
                name = node.arg
                self.assertFalse(hasattr(builtins, name), where)
            if isinstance(node, ast.FunctionDef):
                name = node.name
            self.assertFalse(name.startswith("_") and not name.startswith("__"), where)

    def test_what_is_at_a_file_s_top(self):
        for path, source in sources().items():
            for node in ast.parse(source).body:
                if isinstance(node, ast.Assign):
                    ast.literal_eval(node.value)
                elif isinstance(node, ast.Expr):
                    self.assertIsInstance(node.value, ast.Constant, path.name)
                else:
                    self.assertIsInstance(node, (ast.ImportFrom, ast.FunctionDef, ast.ClassDef), path.name)


if __name__ == "__main__":
    unittest.main()
