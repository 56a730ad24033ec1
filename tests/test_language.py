"""The form of the package's own files, as far as it can be read from them: LANGUAGE.md, L1 to L28."""

import ast
import builtins
import pathlib
import re
import unittest

PACKAGE = pathlib.Path(__file__).resolve().parent.parent / "bridgeinuse"

STATEMENTS = (ast.Assign, ast.AugAssign, ast.If, ast.While, ast.For, ast.Return, ast.Break, ast.Continue, ast.Pass, ast.Raise,
              ast.Try, ast.Expr, ast.FunctionDef)
EXPRESSIONS = (ast.Constant, ast.List, ast.Tuple, ast.Dict, ast.BinOp, ast.UnaryOp, ast.Compare, ast.BoolOp, ast.IfExp, ast.Call,
               ast.Attribute, ast.Subscript, ast.Slice, ast.ListComp, ast.Name, ast.Lambda, ast.JoinedStr, ast.FormattedValue)
BUILTINS = set("""len range enumerate zip min max sum abs sorted reversed int str bool list tuple dict set frozenset isinstance
    ord repr any all divmod Exception ValueError TypeError KeyError IndexError LookupError ZeroDivisionError ArithmeticError
    OverflowError RuntimeError NotImplementedError StopIteration""".split())
METHODS = set("""append clear copy count endswith extend find get index insert isalnum isalpha isdigit islower isspace isupper
    items join keys ljust lower lstrip partition pop remove replace reverse rfind rjust rpartition rsplit rstrip setdefault
    split splitlines startswith strip update upper values zfill bit_length""".split())
FREE_METHODS = METHODS | {"add", "discard"}
FREE_VALUES = set("count index title find get join lower upper split strip copy add".split())
WORDS = re.compile(r"\b(type|typing|typing_extensions|enum|Enum|IntEnum|StrEnum|Flag|IntFlag|Generic|Protocol|ABC|ABCMeta"
                   r"|namedtuple|NamedTuple|TypedDict|TYPE_CHECKING|abstractmethod)\b|dataclass|overload|contextmanager")
NEVER = set("register mro elements open input version_info with_traceback add_note format format_map sort".split())
WALKED = ("zip", "enumerate", "reversed", "range")
WALKERS = ("list", "tuple", "dict", "sorted", "sum", "any", "all", "enumerate", "zip", "min", "max")
OWN_OF_PYTHON = set().union(*[dir(kind) for kind in (str, int, list, dict, set, bytes, tuple)])


def files():
    return sorted(path for path in PACKAGE.iterdir() if path.name != "__pycache__")


def tree_of(path):
    tree = ast.parse(path.read_text(encoding="utf-8"))
    for node in ast.walk(tree):
        for child in ast.iter_child_nodes(node):
            child.parent = node
    return tree


def bound_names(tree):
    for node in ast.walk(tree):
        if isinstance(node, ast.Name) and isinstance(node.ctx, ast.Store):
            yield node.id
        elif isinstance(node, ast.arg):
            yield node.arg
        elif isinstance(node, (ast.FunctionDef, ast.ClassDef)):
            yield node.name


class Language(unittest.TestCase):
    def each_node(self):
        for path in files():
            for node in ast.walk(tree_of(path)):
                yield f"{path.name}:{getattr(node, 'lineno', 0)}", node

    def test_files(self):
        for path in files():
            self.assertRegex(path.name, r"^(__init__|[a-z][a-z0-9_]*)\.py$")
            text = path.read_text(encoding="utf-8")
            self.assertRegex(text, r"\A[ -~\n]*\Z", path.name)
            self.assertIsNone(WORDS.search(text), path.name)
            rows = text.splitlines()
            self.assertLessEqual(len(rows), 400, path.name)
            self.assertLessEqual(max(map(len, rows)), 120, path.name)

    def test_tops(self):
        for path in files():
            for node in tree_of(path).body:
                docstring = isinstance(node, ast.Expr) and isinstance(node.value, ast.Constant)
                self.assertTrue(docstring or isinstance(node, (ast.ImportFrom, ast.FunctionDef, ast.ClassDef, ast.Assign)),
                                f"{path.name}:{node.lineno}")

    def test_imports(self):
        drawn = {}
        for path in files():
            rows = [node for node in ast.walk(tree_of(path)) if isinstance(node, (ast.Import, ast.ImportFrom))]
            for node in rows:
                self.assertIsInstance(node, ast.ImportFrom)
                self.assertTrue(node.module.startswith("bridgeinuse.") and node.level == 0, path.name)
                self.assertTrue(all(alias.name != "*" and alias.asname is None for alias in node.names), path.name)
                source = tree_of(PACKAGE / f"{node.module.split('.')[1]}.py")
                at_top = {name for part in source.body for name in bound_names(part) if not isinstance(part, ast.ImportFrom)}
                self.assertLessEqual({alias.name for alias in node.names}, at_top)
            drawn[path.stem] = {node.module.split(".")[1] for node in rows}
        while drawn:
            free = [name for name, needs in drawn.items() if not needs & set(drawn)]
            self.assertTrue(free, "files draw from one another")
            for name in free:
                drawn.pop(name)

    def test_functions_and_classes(self):
        for place, node in self.each_node():
            if isinstance(node, ast.FunctionDef):
                self.assertLessEqual(node.end_lineno - node.lineno + 1, 40, place)
                self.assertFalse(node.args.vararg or node.args.kwarg or node.args.kwonlyargs or node.args.posonlyargs, place)
                self.assertFalse(node.decorator_list or node.returns, place)
            if isinstance(node, ast.ClassDef):
                self.assertFalse(node.decorator_list or node.keywords or node.bases[1:], place)
                self.assertTrue(all(isinstance(part, ast.FunctionDef) for part in node.body), place)
                self.assertIsInstance(node.parent, ast.Module, place)
            if isinstance(node, ast.arg):
                self.assertIsNone(node.annotation, place)

    def test_statements(self):
        for place, node in self.each_node():
            inside = isinstance(node, ast.stmt) and not isinstance(node.parent, ast.Module)
            if inside:
                self.assertIsInstance(node, STATEMENTS, place)
            if inside and isinstance(node, ast.Expr):
                self.assertIsInstance(node.value, ast.Call, place)
            if isinstance(node, ast.Assign):
                self.assertEqual(len(node.targets), 1, place)
            if isinstance(node, (ast.For, ast.While)):
                self.assertFalse(node.orelse, place)

    def test_expressions(self):
        for place, node in self.each_node():
            if isinstance(node, ast.expr):
                self.assertIsInstance(node, EXPRESSIONS, place)
            if isinstance(node, ast.Constant):
                self.assertTrue(node.value is None or isinstance(node.value, (int, str, bool)), place)
            if isinstance(node, ast.BinOp):
                self.assertNotIsInstance(node.op, (ast.Div, ast.MatMult, ast.Pow), place)
            if isinstance(node, ast.ListComp):
                self.assertEqual((len(node.generators), len(node.generators[0].ifs) < 2), (1, True), place)
            if isinstance(node, ast.Compare) and isinstance(node.ops[0], (ast.Is, ast.IsNot)):
                self.assertIn(node.comparators[0].value, (None, True, False), place)

    def test_names(self):
        for path in files():
            tree = tree_of(path)
            taken = set(dir(builtins)) | {node.name for node in tree.body if isinstance(node, ast.ClassDef)}
            taken |= {alias.name for node in tree.body if isinstance(node, ast.ImportFrom) for alias in node.names}
            for node in ast.walk(tree):
                if isinstance(node, ast.ClassDef):
                    continue
                for name in ([node.id] if isinstance(node, ast.Name) and isinstance(node.ctx, ast.Store) else
                             [node.arg] if isinstance(node, ast.arg) else []):
                    self.assertRegex(name, r"^[A-Za-z][A-Za-z0-9_]*$", path.name)
                    self.assertNotIn(name, taken, path.name)
                if isinstance(node, ast.Name) and node.id in dir(builtins):
                    self.assertIn(node.id, BUILTINS, path.name)
                if isinstance(node, ast.Attribute):
                    self.assertNotIn(node.attr, NEVER, path.name)
            top = [name for node in tree.body if isinstance(node, (ast.Assign, ast.FunctionDef, ast.ClassDef))
                   for name in ([node.targets[0].id] if isinstance(node, ast.Assign) else [node.name])]
            self.assertEqual(len(top), len(set(top)), path.name)

    def test_methods_and_values(self):
        methods, values = set(), set()
        for place, node in self.each_node():
            if isinstance(node, ast.FunctionDef) and isinstance(node.parent, ast.ClassDef):
                methods.add(node.name)
            if isinstance(node, ast.Attribute) and isinstance(node.ctx, ast.Store):
                values.add(node.attr)
        self.assertEqual(methods & values, set())
        self.assertEqual((methods - {"__init__"}) & OWN_OF_PYTHON - FREE_METHODS, set())
        self.assertEqual(values & OWN_OF_PYTHON - FREE_VALUES, set())
        for place, node in self.each_node():
            if isinstance(node, ast.Call) and isinstance(node.func, ast.Attribute):
                self.assertIn(node.func.attr, methods | METHODS, place)
            elif isinstance(node, ast.Attribute) and isinstance(node.ctx, ast.Load):
                called = isinstance(node.parent, ast.Call) and node.parent.func is node
                self.assertTrue(called or node.attr in values, place)

    def test_walked_at_once(self):
        for place, node in self.each_node():
            if not isinstance(node, ast.Call):
                continue
            name = node.func.id if isinstance(node.func, ast.Name) else node.func.attr
            if name in WALKED or name in ("items", "keys", "values"):
                parent = node.parent
                walked = isinstance(parent, (ast.For, ast.comprehension)) and parent.iter is node
                taken = isinstance(parent, ast.Call) and getattr(parent.func, "id", "") in WALKERS and parent.args[0] is node
                self.assertTrue(walked or taken, place)

    def test_names_of_python_are_called_on_the_spot(self):
        for place, node in self.each_node():
            if isinstance(node, ast.Name) and node.id in dir(builtins):
                self.assertTrue(isinstance(node.parent, ast.Call) and node.parent.func is node, place)
            if isinstance(node, ast.Name):
                self.assertNotIn(node.id, ("sys", "print", "chr"), place)
            if isinstance(node, ast.Call):
                self.assertEqual(node.keywords, [], place)

    def test_sets_are_neither_kept_nor_walked(self):
        for place, node in self.each_node():
            if isinstance(node, ast.Call) and getattr(node.func, "id", "") in ("set", "frozenset"):
                parent = node.parent
                self.assertTrue(isinstance(parent, ast.Call) and parent.func.id in ("sorted", "len"), place)

    def test_what_the_package_does_without(self):
        for place, node in self.each_node():
            self.assertNotIsInstance(node, (ast.Try, ast.Raise, ast.Lambda, ast.JoinedStr, ast.Set), place)
            if isinstance(node, ast.Constant) and isinstance(node.value, str):
                self.assertNotRegex(node.value, r"[%\\]", place)
            if isinstance(node, ast.FunctionDef) and node.name == "__init__":
                self.assertFalse(any(isinstance(part, ast.Return) for part in ast.walk(node)), place)
            if isinstance(node, ast.FunctionDef) and node.name.startswith("_"):
                self.assertEqual(node.name, "__init__", place)

    def test_nothing_is_kept_at_the_top(self):
        for path in files():
            tree = tree_of(path)
            kept = {node.targets[0].id for node in tree.body
                    if isinstance(node, ast.Assign) and isinstance(node.value, (ast.List, ast.Dict))}
            for node in ast.walk(tree):
                if isinstance(node, ast.Name) and node.id in kept and isinstance(node.ctx, ast.Load):
                    self.assertIsInstance(node.parent, (ast.Subscript, ast.For, ast.Compare), f"{path.name}:{node.lineno}")
                    if isinstance(node.parent, ast.Subscript):
                        self.assertIsInstance(node.parent.ctx, ast.Load)


if __name__ == "__main__":
    unittest.main()
