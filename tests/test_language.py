"""The package keeps to the part of Python that it is written in, as far as a look at its files can tell."""

import ast
import pathlib
import re
import unittest

PACKAGE = pathlib.Path(__file__).resolve().parent.parent / "justthisdeed"

PLAIN_NAMES = {
    "len", "range", "enumerate", "zip", "min", "max", "sum", "abs", "sorted", "reversed", "int", "str", "bool", "list",
    "tuple", "dict", "set", "frozenset", "isinstance", "ord", "repr", "any", "all", "divmod"}

NODES = {
    "Module", "Expr", "Constant", "ImportFrom", "alias", "Assign", "Name", "Store", "Load", "Tuple", "List", "Dict",
    "FunctionDef", "arguments", "arg", "ClassDef", "Return", "If", "While", "For", "Break", "Continue", "Pass", "Call",
    "Attribute", "Subscript", "Slice", "Compare", "BoolOp", "UnaryOp", "BinOp", "And", "Or", "Not", "USub", "Invert",
    "Add", "Sub", "Mult", "FloorDiv", "Mod", "Pow", "BitAnd", "BitOr", "BitXor", "LShift", "RShift", "Eq", "NotEq",
    "Lt", "LtE", "Gt", "GtE", "In", "NotIn", "Is", "IsNot", "IfExp", "ListComp", "comprehension", "keyword"}

KEYWORDS = {
    "sorted": {"key", "reverse"}, "min": {"key", "default"}, "max": {"key", "default"}, "sum": {"start"},
    "enumerate": {"start"}, "zip": {"strict"}}

METHODS = {
    "append", "clear", "copy", "count", "endswith", "extend", "find", "get", "index", "insert", "items", "join", "keys",
    "pop", "remove", "replace", "reverse", "setdefault", "split", "strip", "update", "values", "bit_length"}

FORBIDDEN_WORDS = re.compile(
    r"\b(type|typing|typing_extensions|enum|Enum|IntEnum|StrEnum|Flag|IntFlag|Generic|Protocol|ABC|ABCMeta|namedtuple"
    r"|NamedTuple|TypedDict|TYPE_CHECKING|abstractmethod|register|mro|elements|open|input|version_info)\b"
    r"|dataclass|overload|contextmanager")


def sources():
    return sorted(PACKAGE.glob("*.py"))


def bound_names(tree):
    """The names that a file binds in its defs: parameters, what is assigned and what loops bind."""
    names = {node.arg for node in ast.walk(tree) if isinstance(node, ast.arg)}
    for node in ast.walk(tree):
        if isinstance(node, ast.Name) and isinstance(node.ctx, ast.Store):
            names.add(node.id)
    return names


def own_names(tree):
    """The classes, functions and imports of a file."""
    names = set()
    for node in tree.body:
        if isinstance(node, ast.ImportFrom):
            names |= {alias.asname or alias.name for alias in node.names}
        if isinstance(node, (ast.FunctionDef, ast.ClassDef)):
            names.add(node.name)
    return names


class Language(unittest.TestCase):
    def each(self):
        for path in sources():
            with self.subTest(path.name):
                yield path, path.read_text("ascii")

    def test_files(self):
        self.assertIn("__init__.py", [path.name for path in sources()])
        for path in PACKAGE.iterdir():
            if path.name != "__pycache__":
                self.assertRegex(path.name, r"^[a-z_]+\.py$")

    def test_size_signs_and_words(self):
        for _, text in self.each():
            rows = text.split("\n")
            self.assertLessEqual(len(rows), 399)
            self.assertLessEqual(max(len(row) for row in rows), 120)
            self.assertRegex(text, r"^[ -~\n]*$")
            self.assertIsNone(FORBIDDEN_WORDS.search(text))
            for node in ast.walk(ast.parse(text)):
                if isinstance(node, ast.FunctionDef):
                    self.assertLessEqual(node.end_lineno - node.lineno + 1, 40)

    def test_what_stands_in_it(self):
        for _, text in self.each():
            tree = ast.parse(text)
            self.assertIsNotNone(ast.get_docstring(tree))
            self.assertLessEqual({node.__class__.__name__ for node in ast.walk(tree)}, NODES)
            for node in ast.walk(tree):
                if isinstance(node, ast.Constant):
                    self.assertIsInstance(node.value, (int, str, type(None)))
                if isinstance(node, ast.Assign):
                    self.assertEqual(len(node.targets), 1)
                if isinstance(node, (ast.For, ast.While)):
                    self.assertEqual(node.orelse, [])
                if isinstance(node, ast.FunctionDef):
                    self.assertEqual((node.decorator_list, node.args.defaults, node.args.kwonlyargs), ([], [], []))
                    self.assertIsNone(node.args.vararg or node.args.kwarg)

    def test_names(self):
        for _, text in self.each():
            tree = ast.parse(text)
            own = own_names(tree)
            self.assertFalse(bound_names(tree) & (own | PLAIN_NAMES))
            tops = {node.targets[0].id for node in tree.body if isinstance(node, ast.Assign)}
            known = own | bound_names(tree) | tops | PLAIN_NAMES
            for node in ast.walk(tree):
                if isinstance(node, ast.Name):
                    self.assertIn(node.id, known)
                    self.assertNotEqual(node.id[0], "_")

    def test_tops(self):
        """A docstring, imports, defs, classes, and names that are given whole numbers or tuples of them, once."""
        for _, text in self.each():
            tops = []
            for node in ast.parse(text).body[1:]:
                if isinstance(node, ast.Assign):
                    tops.append(node.targets[0].id)
                    value = node.value
                    values = value.elts if isinstance(value, ast.Tuple) else [value]
                    self.assertTrue(all(isinstance(each, ast.Constant) for each in values))
                else:
                    self.assertIsInstance(node, (ast.ImportFrom, ast.FunctionDef, ast.ClassDef))
            self.assertEqual(len(tops), len(set(tops)))

    def test_keywords(self):
        for _, text in self.each():
            for node in ast.walk(ast.parse(text)):
                if isinstance(node, ast.Call) and node.keywords:
                    self.assertIsInstance(node.func, ast.Name)
                    self.assertLessEqual({word.arg for word in node.keywords}, KEYWORDS.get(node.func.id, set()))
                    for word in node.keywords:
                        if word.arg in ("reverse", "strict"):
                            self.assertIn(getattr(word.value, "value", None), (True, False))

    def test_methods(self):
        python_s_own = {name for kind in (str, int, list, dict, set, bytes, tuple) for name in dir(kind)}
        for _, text in self.each():
            tree = ast.parse(text)
            called = {node.func for node in ast.walk(tree) if isinstance(node, ast.Call)}
            for node in ast.walk(tree):
                if isinstance(node, ast.Attribute) and node in called:
                    self.assertIn(node.attr, METHODS)
                elif isinstance(node, ast.Attribute):
                    self.assertNotIn(node.attr, python_s_own)

    def test_imports(self):
        trees = {f"justthisdeed.{path.stem}": ast.parse(path.read_text("ascii")) for path in sources()}
        drawn = {}
        for name, tree in trees.items():
            drawn[name] = []
            for node in ast.walk(tree):
                if isinstance(node, ast.ImportFrom):
                    self.assertIn(node, tree.body)
                    self.assertIn(node.module, trees)
                    drawn[name].append(node.module)
                    there = trees[node.module]
                    defined = {row.name for row in there.body if isinstance(row, (ast.FunctionDef, ast.ClassDef))}
                    defined |= {row.targets[0].id for row in there.body if isinstance(row, ast.Assign)}
                    self.assertLessEqual({alias.name for alias in node.names}, defined)
        self.assertEqual(drawn["justthisdeed.__init__"], [])
        while drawn:
            ready = [name for name, modules in drawn.items() if not any(module in drawn for module in modules)]
            self.assertTrue(ready, "files that draw from one another")
            for name in ready:
                drawn.pop(name)


if __name__ == "__main__":
    unittest.main()
