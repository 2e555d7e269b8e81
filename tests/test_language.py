"""The package's files keep to the part of Python that the program is written in, as far as a short look can tell."""

import ast
import builtins
import pathlib
import re
import unittest

PACKAGE = pathlib.Path(__file__).resolve().parent.parent / "fieldsquares"

# Without lambdas, sets, errors, keywords, f-strings and exponents, which have rules of their own (L13, L19, L22, L24,
# L27): those are kept by doing without.
NODES = """
    Module FunctionDef arguments arg ClassDef Return Assign For While If ImportFrom alias Expr Pass Break Continue
    BoolOp And Or BinOp Add Sub Mult FloorDiv Mod LShift RShift BitOr BitXor BitAnd UnaryOp Not USub Invert IfExp
    Dict List Tuple ListComp comprehension Compare Eq NotEq Lt LtE Gt GtE Is IsNot In NotIn Call Constant Attribute
    Subscript Slice Name Load Store
""".split()

OWN_NAMES = """
    len range enumerate zip min max sum abs sorted reversed int str bool list tuple dict isinstance
    ord repr any all divmod Exception ValueError TypeError KeyError IndexError LookupError ZeroDivisionError
    ArithmeticError OverflowError RuntimeError NotImplementedError AttributeError StopIteration
""".split()

WORDS_LEFT_OUT = r"""
    \b(type|typing|typing_extensions|enum|Enum|IntEnum|StrEnum|Flag|IntFlag|Generic|Protocol|ABC|ABCMeta|namedtuple|
    NamedTuple|TypedDict|TYPE_CHECKING|abstractmethod)\b|dataclass|overload|contextmanager
"""

METHODS = """
    append clear copy count endswith extend find get index insert isalnum isalpha isdigit islower isspace isupper
    items join keys ljust lower lstrip partition pop remove replace reverse rfind rjust rpartition rsplit rstrip
    setdefault split splitlines startswith strip update upper values zfill bit_length
""".split()

CHANGING = ("append", "clear", "extend", "insert", "pop", "remove", "reverse", "setdefault", "update")

NOT_USED = """
    register mro elements open input version_info with_traceback add_note attrgetter breakpoint builtins compile
    copyright credits delattr dir eval exec exit gc getattr globals hasattr help id importlib license locals
    methodcaller os quit setattr super type vars sys __name__ format format_map
""".split()

WALKED = ("zip", "enumerate", "reversed", "range", "items", "keys", "values")
WALKERS = ("list", "tuple", "dict", "sorted", "sum", "any", "all", "enumerate", "zip", "min", "max")


def sources():
    return {path: path.read_text(encoding="utf-8") for path in sorted(PACKAGE.glob("*.py"))}


def nodes():
    for path, source in sources().items():
        for node in ast.walk(ast.parse(source)):
            yield f"{path.name}:{getattr(node, 'lineno', 0)}", node


def called(node):
    """What a call calls: a name, or the method of a value."""
    return node.func.id if isinstance(node.func, ast.Name) else node.func.attr


def with_parents(tree):
    """Each node below the tree's top with the one that it stands in."""
    return [(node, parent) for parent in ast.walk(tree) for node in ast.iter_child_nodes(parent)]


def imports_of(tree):
    found = [node for node in ast.walk(tree) if isinstance(node, ast.ImportFrom)]
    return [(node.module, name.name) for node in found for name in node.names]


def defined_in(tree):
    found = []
    for node in tree.body:
        if isinstance(node, (ast.FunctionDef, ast.ClassDef)):
            found.append(node.name)
        elif isinstance(node, ast.Assign):
            found.extend(target.id for target in node.targets)
    return found


class Language(unittest.TestCase):
    def test_files(self):
        for path in PACKAGE.rglob("*"):
            if "__pycache__" not in path.parts:
                self.assertRegex(path.name, r"^(__init__|[a-z][a-z0-9_]*)\.py$")

    def test_signs_words_and_sizes(self):
        left_out = re.compile(WORDS_LEFT_OUT, re.VERBOSE)
        for path, source in sources().items():
            self.assertRegex(source, r"\A[ -~\n]*\Z", path.name)
            self.assertIsNone(left_out.search(source), path.name)
            lines = source.split("\n")
            self.assertLessEqual(len(lines), 400, path.name)
            self.assertLessEqual(max(len(line) for line in lines), 120, path.name)

    def test_statements_and_expressions(self):
        for where, node in nodes():
            self.assertIn(node.__class__.__name__, NODES, where)
            if isinstance(node, ast.ListComp):
                self.assertEqual(len(node.generators), 1, where)
            if isinstance(node, (ast.For, ast.While)):
                self.assertEqual(node.orelse, [], where)
            if isinstance(node, ast.Constant):
                self.assertNotIsInstance(node.value, (float, bytes, complex), where)
                self.assertFalse(isinstance(node.value, str) and "%" in node.value, where)

    def test_imports(self):
        for where, node in nodes():
            if isinstance(node, ast.ImportFrom):
                self.assertEqual(node.level, 0, where)
                self.assertTrue(node.module.startswith("fieldsquares."), where)
                self.assertNotIn("*", [name.name for name in node.names], where)

    def test_a_name_is_drawn_from_the_file_that_defines_it(self):
        trees = {f"fieldsquares.{path.stem}": ast.parse(source) for path, source in sources().items()}
        for module, tree in trees.items():
            names = defined_in(tree)
            self.assertEqual(len(names), len(set(names)), module)
            for drawn, name in imports_of(tree):
                self.assertIn(name, defined_in(trees[drawn]), module)

    def test_no_two_files_draw_from_one_another(self):
        trees = {f"fieldsquares.{path.stem}": ast.parse(source) for path, source in sources().items()}
        left = {module: {drawn for drawn, _ in imports_of(tree)} for module, tree in trees.items()}
        while left:
            free = [module for module, drawn in left.items() if not drawn & set(left)]
            self.assertTrue(free, left)
            for module in free:
                del left[module]

    def test_no_local_is_called_like_an_import_or_a_class(self):
        for path, source in sources().items():
            tree = ast.parse(source)
            taken = {name for _, name in imports_of(tree)}
            taken |= {node.name for node in ast.walk(tree) if isinstance(node, ast.ClassDef)}
            for node in ast.walk(tree):
                if isinstance(node, ast.Name) and isinstance(node.ctx, ast.Store):
                    self.assertNotIn(node.id, taken, f"{path.name}:{node.lineno}")
                if isinstance(node, ast.arg):
                    self.assertNotIn(node.arg, taken, f"{path.name}:{node.lineno}")

    def test_methods_and_is(self):
        own = [node.name for _, node in nodes() if isinstance(node, ast.FunctionDef)]
        for where, node in nodes():
            if isinstance(node, ast.Call) and isinstance(node.func, ast.Attribute):
                self.assertIn(node.func.attr, METHODS + own, where)
            if isinstance(node, ast.Compare) and isinstance(node.ops[0], (ast.Is, ast.IsNot)):
                self.assertIn(node.comparators[0].value, (None, True, False), where)

    def test_walked_at_once(self):
        fine = set()
        for path, source in sources().items():
            tree = ast.parse(source)
            for node in ast.walk(tree):
                if isinstance(node, (ast.For, ast.comprehension)):
                    fine.add(node.iter)
                if isinstance(node, ast.Call) and called(node) in WALKERS and node.args:
                    fine.add(node.args[0])
                if isinstance(node, ast.Call) and called(node) in WALKED:
                    self.assertIn(node, fine, f"{path.name}:{node.lineno}")

    def test_what_a_file_s_top_holds_is_not_changed(self):
        for path, source in sources().items():
            tree = ast.parse(source)
            held = [name for name in defined_in(tree) if name.isupper()]
            held += [name for _, name in imports_of(tree) if name.isupper()]
            for node in ast.walk(tree):
                where = f"{path.name}:{getattr(node, 'lineno', 0)}"
                if isinstance(node, ast.Subscript) and isinstance(node.ctx, ast.Store):
                    self.assertNotIn(getattr(node.value, "id", ""), held, where)
                if isinstance(node, ast.Call) and isinstance(node.func, ast.Attribute):
                    if getattr(node.func.value, "id", "") in held:
                        self.assertIn(node.func.attr, ("index", "get", "count", "items", "keys", "values"), where)

    def test_lists_and_dicts_of_a_file_s_top_hold_none_and_are_only_read(self):
        trees = {path.name: ast.parse(source) for path, source in sources().items()}
        held = []
        for name, tree in trees.items():
            for node in tree.body:
                if isinstance(node, ast.Assign) and isinstance(node.value, (ast.List, ast.Dict)):
                    held.append(node.targets[0].id)
                    within = [inner for inner in ast.walk(node.value) if isinstance(inner, (ast.List, ast.Dict))]
                    self.assertEqual(len(within), 1, name)
        self.assertTrue(held)
        for name, tree in trees.items():
            for node, parent in with_parents(tree):
                if isinstance(node, ast.Name) and isinstance(node.ctx, ast.Load) and node.id in held:
                    self.assertIsInstance(parent, (ast.Subscript, ast.Compare), f"{name}:{node.lineno}")

    def test_classes_are_called_and_methods_are_called_where_they_stand(self):
        classes = [node.name for _, node in nodes() if isinstance(node, ast.ClassDef)]
        own = [node.name for _, outer in nodes() if isinstance(outer, ast.ClassDef) for node in outer.body]
        for path, source in sources().items():
            for node, parent in with_parents(ast.parse(source)):
                is_called = isinstance(parent, ast.Call) and parent.func is node
                where = f"{path.name}:{getattr(node, 'lineno', 0)}"
                if isinstance(node, ast.Name) and node.id in classes:
                    self.assertTrue(is_called, where)
                if isinstance(node, ast.Attribute) and node.attr in METHODS + own:
                    self.assertTrue(is_called, where)

    def test_classes_are_plain(self):
        for where, node in nodes():
            if isinstance(node, ast.ClassDef):
                self.assertEqual((node.bases, node.keywords, node.decorator_list), ([], [], []), where)
                for method in node.body:
                    self.assertIsInstance(method, ast.FunctionDef, where)
                    self.assertTrue(method.name == "__init__" or not method.name.startswith("__"), where)
                    if method.name == "__init__":
                        self.assertFalse([n for n in ast.walk(method) if isinstance(n, ast.Return)], where)

    def test_what_a_loop_walks_is_not_changed_in_it(self):
        for where, node in nodes():
            if isinstance(node, ast.For):
                walked = {inner.id for inner in ast.walk(node.iter) if isinstance(inner, ast.Name)}
                for inner in [inner for line in node.body for inner in ast.walk(line)]:
                    if isinstance(inner, ast.Subscript) and isinstance(inner.ctx, ast.Store):
                        self.assertNotIn(getattr(inner.value, "id", ""), walked, where)
                    if isinstance(inner, ast.Attribute) and inner.attr in CHANGING:
                        self.assertNotIn(getattr(inner.value, "id", ""), walked, where)

    def test_functions(self):
        for where, node in nodes():
            if isinstance(node, ast.FunctionDef):
                self.assertLessEqual(node.end_lineno - node.lineno + 1, 40, where)
                self.assertEqual(node.decorator_list, [], where)
                self.assertIsNone(node.args.vararg or node.args.kwarg or node.returns, where)
                self.assertEqual(node.args.kwonlyargs + node.args.posonlyargs, [], where)
            if isinstance(node, ast.arg):
                self.assertIsNone(node.annotation, where)

    def test_names(self):
        for where, node in nodes():
            name = ""
            if isinstance(node, ast.Name):
                name = node.id
                if isinstance(node.ctx, ast.Load) and hasattr(builtins, name):
                    self.assertIn(name, OWN_NAMES, where)
                if isinstance(node.ctx, ast.Store):
                    self.assertFalse(hasattr(builtins, name), where)
            if isinstance(node, ast.arg):
                name = node.arg
                self.assertFalse(hasattr(builtins, name), where)
            if isinstance(node, ast.FunctionDef):
                name = node.name
            if isinstance(node, ast.Attribute):
                self.assertFalse(node.attr.startswith("_"), where)
                self.assertNotIn(node.attr, NOT_USED, where)
            self.assertTrue(not name.startswith("_") or name == "__init__", where)
            self.assertNotIn(name, NOT_USED, where)

    def test_what_is_at_a_file_s_top(self):
        for path, source in sources().items():
            for node in ast.parse(source).body:
                if isinstance(node, ast.Assign):
                    ast.literal_eval(node.value)
                elif isinstance(node, ast.Expr):
                    self.assertIsInstance(node.value, ast.Constant, path.name)
                else:
                    self.assertIsInstance(node, (ast.ImportFrom, ast.FunctionDef, ast.ClassDef), path.name)


if __name__ == "__main__":
    unittest.main()
