"""The package keeps to the small part of Python that it is written in.

Each test names the rule it looks after; what a rule says of things that this package doesn't
use at all is looked after by the list of syntax that is allowed.
"""

import ast
import builtins
import pathlib
import re
import unittest

PACKAGE = pathlib.Path(__file__).resolve().parent.parent / "settingsbook"

ALLOWED_SYNTAX = {
    "Module", "Expr", "ImportFrom", "alias", "FunctionDef", "arguments", "arg", "ClassDef", "Assign", "AugAssign", "If", "While", "For",
    "Return", "Break", "Continue", "Pass", "Raise", "Try", "ExceptHandler", "Call", "Attribute", "Subscript", "Slice", "Name", "Constant",
    "List", "Tuple", "Dict", "ListComp", "comprehension", "BinOp", "UnaryOp", "BoolOp", "Compare", "IfExp", "JoinedStr", "FormattedValue",
    "Load", "Store", "Add", "Sub", "Mult", "FloorDiv", "Mod", "And", "Or", "Not", "USub", "Eq", "NotEq", "Lt", "LtE", "Gt", "GtE", "In",
    "NotIn", "Is", "IsNot",
}
BUILTINS = {
    "len", "range", "enumerate", "zip", "min", "max", "sum", "abs", "sorted", "reversed", "int", "str", "bool", "list", "tuple", "dict",
    "isinstance", "ord", "repr", "any", "all", "divmod", "Exception", "ValueError", "KeyError", "IndexError",
}
METHODS = {
    "append", "clear", "copy", "count", "endswith", "extend", "find", "get", "index", "insert", "isalnum", "isalpha", "isdigit", "islower",
    "isspace", "isupper", "items", "join", "keys", "ljust", "lower", "lstrip", "partition", "pop", "remove", "replace", "reverse", "rfind",
    "rjust", "rpartition", "rsplit", "rstrip", "setdefault", "split", "splitlines", "startswith", "strip", "update", "upper", "values",
    "zfill", "bit_length",
}
BANNED_WORDS = re.compile(
    r"\b(type|typing|typing_extensions|enum|Enum|IntEnum|StrEnum|Flag|IntFlag|Generic|Protocol|ABC|ABCMeta|namedtuple|NamedTuple"
    r"|TypedDict|TYPE_CHECKING|abstractmethod)\b|dataclass|overload|contextmanager")
BANNED_NAMES = {
    "register", "mro", "elements", "open", "input", "version_info", "with_traceback", "add_note", "format", "format_map", "chr", "args",
    "sort", "encode",
}
WALKED_AT_ONCE = {"zip", "enumerate", "reversed", "range", "items", "keys", "values"}


def files():
    return sorted(PACKAGE.rglob("*.py"))


TREES = [(path, ast.parse(path.read_text("utf-8"))) for path in files()]


def nodes(*kinds):
    return [(path, node) for path, tree in TREES for node in ast.walk(tree) if isinstance(node, kinds)]


def is_plain(node):
    """A value that may stand at a file's top."""
    if isinstance(node, ast.Constant):
        return node.value is None or isinstance(node.value, (int, str))
    if isinstance(node, (ast.Tuple, ast.List)):
        return all(is_plain(one) and not isinstance(one, (ast.List, ast.Dict)) for one in node.elts)
    if isinstance(node, ast.Dict):
        return all(is_plain(one) and not isinstance(one, (ast.List, ast.Dict)) for one in node.keys + node.values)
    return False


def bound_names(node):
    """Parameters and locals of a function."""
    names = [one.arg for one in ast.walk(node) if isinstance(one, ast.arg)]
    return names + [one.id for one in ast.walk(node) if isinstance(one, ast.Name) and isinstance(one.ctx, ast.Store)]


class TheLanguage(unittest.TestCase):
    def each(self, wrong, rule):
        self.assertEqual([f"{path.name}:{getattr(node, 'lineno', 0)}" for path, node in wrong], [], rule)

    def test_files(self):
        names = {path.name for path in PACKAGE.iterdir() if path.name != "__pycache__"}
        self.assertIn("__init__.py", names)
        for name in names:
            self.assertRegex(name, r"^([a-z][a-z0-9_]*|__init__)\.py$", "L1, L14")
            self.assertFalse(name != "__init__.py" and hasattr(builtins, name[:-3]), f"L14 {name}")

    def test_signs_and_sizes(self):
        for path in files():
            text = path.read_text("utf-8")
            self.assertRegex(text, r"\A[\n -~]*\Z", f"L14 {path.name}")
            self.assertLessEqual(text.count("\n"), 400, f"L10 {path.name}")
            self.assertLessEqual(max(len(line) for line in text.split("\n")), 120, f"L10 {path.name}")
            self.assertIsNone(BANNED_WORDS.search(text), f"L17 {path.name}")

    def test_syntax(self):
        self.each([(path, node) for path, node in nodes(ast.AST) if type(node).__name__ not in ALLOWED_SYNTAX], "L6, L7")

    def test_values(self):
        self.each([(path, node) for path, node in nodes(ast.Constant)
                   if not (node.value is None or isinstance(node.value, (bool, int, str)))], "L7")
        self.each([(path, node) for path, node in nodes(ast.Constant) if isinstance(node.value, str) and "%" in node.value], "L27")
        for path in files():
            self.assertIsNone(re.search(r"\\[^nt\\\"']", path.read_text("utf-8").replace("\\\\", "")), f"L27 {path.name}")

    def test_imports(self):
        drawn = {}
        for path, node in nodes(ast.ImportFrom):
            self.assertEqual(node.level, 0, "L2")
            self.assertTrue(node.module.startswith("settingsbook."), "L2")
            source = PACKAGE / (node.module.split(".")[1] + ".py")
            defined = [one.name for one in ast.parse(source.read_text("utf-8")).body if isinstance(one, (ast.FunctionDef, ast.ClassDef))]
            defined += [one.targets[0].id for one in ast.parse(source.read_text("utf-8")).body if isinstance(one, ast.Assign)]
            for name in node.names:
                self.assertIsNone(name.asname, "L2")
                self.assertIn(name.name, defined, f"L16 {path.name}")
            drawn.setdefault(path.stem, set()).add(source.stem)
        settled = set()
        while len(settled) < len(files()):
            free = {path.stem for path in files() if drawn.get(path.stem, set()) <= settled} - settled
            self.assertTrue(free, "L16: files draw from one another")
            settled |= free

    def test_all_imports_are_used(self):
        for path, tree in TREES:
            used = {node.id for node in ast.walk(tree) if isinstance(node, ast.Name)}
            for node in ast.walk(tree):
                if isinstance(node, ast.ImportFrom):
                    self.assertEqual([name.name for name in node.names if name.name not in used], [], path.name)

    def test_the_top_of_a_file(self):
        for path, tree in TREES:
            self.assertIsNotNone(ast.get_docstring(tree), path.name)
            names = []
            for node in tree.body[1:]:
                self.assertIsInstance(node, (ast.ImportFrom, ast.FunctionDef, ast.ClassDef, ast.Assign), f"L3 {path.name}")
                if isinstance(node, ast.Assign):
                    self.assertTrue(is_plain(node.value), f"L3, L15 {path.name}:{node.lineno}")
                    names.append(node.targets[0].id)
                elif isinstance(node, ast.ImportFrom):
                    names.extend(name.name for name in node.names)
                else:
                    names.append(node.name)
            self.assertEqual(len(names), len(set(names)), f"L15 {path.name}")

    def test_functions(self):
        for path, node in nodes(ast.FunctionDef):
            where = f"{path.name}:{node.lineno}"
            self.assertLessEqual(node.end_lineno - node.lineno + 1, 40, f"L10 {where}")
            self.assertEqual(node.decorator_list, [], f"L4 {where}")
            self.assertIsNone(node.args.vararg or node.args.kwarg, f"L4 {where}")
            self.assertEqual(node.args.kwonlyargs + node.args.posonlyargs, [], f"L4 {where}")
            self.assertTrue(all(is_plain(one) for one in node.args.defaults), f"L4 {where}")
            self.assertTrue(node.returns is None and all(one.annotation is None for one in node.args.args), f"L21 {where}")

    def test_names(self):
        for path, tree in TREES:
            taken = {name.name for node in ast.walk(tree) if isinstance(node, ast.ImportFrom) for name in node.names}
            taken |= {node.name for node in ast.walk(tree) if isinstance(node, ast.ClassDef)}
            for node in ast.walk(tree):
                if isinstance(node, ast.FunctionDef):
                    self.assertTrue(node.name == "__init__" or re.match(r"^[A-Za-z]\w*$", node.name), "L12")
                    for name in bound_names(node):
                        self.assertRegex(name, r"^[A-Za-z][A-Za-z0-9_]*$", f"L12 {path.name}")
                        self.assertFalse(name in taken or hasattr(builtins, name), f"L15 {path.name} {name}")
                if isinstance(node, ast.Name):
                    self.assertNotIn(node.id, BANNED_NAMES, f"L17 {path.name}")
                    if isinstance(node.ctx, ast.Load) and hasattr(builtins, node.id):
                        self.assertIn(node.id, BUILTINS, f"L8 {path.name}")
                if isinstance(node, ast.Attribute):
                    self.assertNotIn(node.attr, BANNED_NAMES, f"L17, L26 {path.name}")

    def test_assignments(self):
        self.each([(path, node) for path, node in nodes(ast.Assign)
                   if len(node.targets) != 1 or isinstance(node.targets[0], (ast.Tuple, ast.List))], "L6")
        self.each([(path, node) for path, node in nodes(ast.While, ast.For) if node.orelse], "L6")
        self.each([(path, node) for path, node in nodes(ast.Try) if node.finalbody], "L6")

    def test_classes(self):
        methods = {}
        held = {}
        for path, node in nodes(ast.ClassDef):
            self.assertEqual(node.decorator_list + node.keywords, [], "L5")
            self.assertLessEqual(len(node.bases), 1, "L5")
            for one in node.body:
                self.assertTrue(isinstance(one, ast.FunctionDef) or isinstance(one, ast.Expr) and isinstance(one.value, ast.Constant), "L5")
            methods.update({one.name: node.name for one in node.body if isinstance(one, ast.FunctionDef) and one.name != "__init__"})
            held.update({one.attr: node.name for one in ast.walk(node) if isinstance(one, ast.Attribute) and isinstance(one.ctx, ast.Store)})
        self.assertEqual(set(methods) & set(held), set(), "L18")
        own = {name for kind in (str, int, list, dict, set, bytes, tuple) for name in dir(kind)}
        self.assertEqual((set(methods) | set(held)) & own, set(), "L26")
        self.check_attributes(set(methods), set(held))

    def check_attributes(self, methods, held):
        called = [node.func for path, node in nodes(ast.Call)]
        for path, node in nodes(ast.Attribute):
            where = f"{path.name}:{node.lineno} {node.attr}"
            self.assertIn(node.attr, methods | held | METHODS, f"L25 {where}")
            if node.attr in methods | METHODS:
                self.assertTrue(node in called, f"L25 {where}")

    def test_is(self):
        for path, node in nodes(ast.Compare):
            for sign, other in zip(node.ops, node.comparators):
                if isinstance(sign, (ast.Is, ast.IsNot)):
                    self.assertTrue(isinstance(other, ast.Constant) and not isinstance(other.value, (str, bytes)), f"L20 {path.name}")

    def test_errors(self):
        own = {node.name for path, node in nodes(ast.ClassDef) if path.name == "refusals.py"}
        for path, node in nodes(ast.ExceptHandler):
            self.assertIn(node.type.id, own, f"L19 {path.name}")
        for path, node in nodes(ast.Raise):
            self.assertTrue(isinstance(node.exc, ast.Call) and node.exc.func.id in own, f"L19 {path.name}")

    def test_keywords(self):
        self.each([(path, node) for path, node in nodes(ast.Call) if node.keywords], "L22")

    def test_walked_at_once(self):
        walked = set()
        for path, node in nodes(ast.For, ast.comprehension):
            walked.add((path, node.iter.lineno, node.iter.col_offset))
        for path, node in nodes(ast.Call):
            if isinstance(node.func, ast.Name) and node.func.id in ("list", "tuple", "dict", "sorted", "sum", "any", "all") and node.args:
                walked.add((path, node.args[0].lineno, node.args[0].col_offset))
        for path, node in nodes(ast.Call):
            name = node.func.id if isinstance(node.func, ast.Name) else node.func.attr
            if name in WALKED_AT_ONCE:
                self.assertIn((path, node.lineno, node.col_offset), walked, f"L23 {path.name}")


if __name__ == "__main__":
    unittest.main()
