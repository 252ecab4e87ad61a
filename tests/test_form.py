"""What of ../shared/LANGUAGE.md can be seen by a walk over the package's own files."""

import ast
import pathlib
import re
import unittest

PACKAGE = pathlib.Path(__file__).resolve().parent.parent / "grantsback"
FILES = sorted(PACKAGE.rglob("*.py"))

NODES = {
    "Module", "ImportFrom", "alias", "FunctionDef", "ClassDef", "arguments", "arg", "Expr", "Assign", "AugAssign",
    "If", "While", "For", "Return", "Break", "Continue", "Pass", "Raise", "Try", "ExceptHandler", "Constant", "Name",
    "Load", "Store", "List", "Tuple", "Dict", "BinOp", "UnaryOp", "BoolOp", "Compare", "IfExp", "Call", "keyword",
    "Attribute", "Subscript", "Slice", "ListComp", "comprehension", "Lambda", "JoinedStr", "FormattedValue",
    "Add", "Sub", "Mult", "FloorDiv", "Mod", "Pow", "BitAnd", "BitOr", "BitXor", "Invert", "LShift", "RShift",
    "USub", "Not", "And", "Or", "Eq", "NotEq", "Lt", "LtE", "Gt", "GtE", "Is", "IsNot", "In", "NotIn",
}
OWN_NAMES_OF_PYTHON = {
    "len", "range", "enumerate", "zip", "min", "max", "sum", "abs", "sorted", "reversed", "int", "str", "bool", "list",
    "tuple", "dict", "set", "isinstance", "ord", "repr", "any", "all", "divmod",
}
OWN_METHODS_OF_PYTHON = {
    "append", "clear", "copy", "count", "endswith", "extend", "find", "get", "index", "insert", "items", "join",
    "keys", "lower", "lstrip", "partition", "pop", "remove", "replace", "reverse", "setdefault", "split", "startswith",
    "strip", "update", "upper", "values", "bit_length",
}
KEYWORDS = {
    "sorted": {"key", "reverse"}, "min": {"key", "default"}, "max": {"key", "default"}, "sum": {"start"},
    "enumerate": {"start"}, "zip": {"strict"},
}
WORDS_OUT = re.compile(
    r"\b(type|typing|typing_extensions|enum|Enum|IntEnum|StrEnum|Flag|IntFlag|Generic|Protocol|ABC|ABCMeta|namedtuple"
    r"|NamedTuple|TypedDict|TYPE_CHECKING|abstractmethod)\b|dataclass|overload|contextmanager")
PLAIN_NAME = re.compile(r"^[A-Za-z][A-Za-z0-9_]*$")


def names_bound(tree):
    """Every name that a file binds: at its top, as a parameter or as a local."""
    names = []
    for node in ast.walk(tree):
        if isinstance(node, (ast.FunctionDef, ast.ClassDef)):
            names.append(node.name)
        elif isinstance(node, ast.arg):
            names.append(node.arg)
        elif isinstance(node, ast.alias):
            names.append(node.name)
        elif isinstance(node, ast.Name) and isinstance(node.ctx, ast.Store):
            names.append(node.id)
    return names


class Form(unittest.TestCase):
    def each(self):
        for path in FILES:
            text = path.read_text(encoding="utf-8")
            yield path, text, ast.parse(text, filename=str(path))

    def walk(self, kind):
        for path, text, tree in self.each():
            for node in ast.walk(tree):
                if isinstance(node, kind):
                    yield node

    def test_files(self):
        self.assertTrue((PACKAGE / "__init__.py").is_file())
        for path in PACKAGE.rglob("*"):
            if "__pycache__" not in path.parts:
                self.assertRegex(path.name, r"^(__init__|[a-z][a-z0-9_]*)\.py$")
                self.assertNotRegex(path.name, r"^(test|tests|testing|test_.*|site|conftest)\.py$")

    def test_signs_and_sizes(self):
        for path, text, tree in self.each():
            self.assertRegex(text, r"\A[\n -~]*\Z")
            lines = text.split("\n")
            self.assertLessEqual(len(lines), 400)
            self.assertLessEqual(max(len(line) for line in lines), 120)
        for node in self.walk(ast.FunctionDef):
            self.assertLessEqual(node.end_lineno - node.lineno + 1, 40, node.name)

    def test_words_that_stand_nowhere(self):
        for path, text, tree in self.each():
            self.assertIsNone(WORDS_OUT.search(text))

    def test_statements_and_expressions(self):
        for node in self.walk(ast.AST):
            self.assertIn(node.__class__.__name__, NODES)

    def test_one_target_and_no_else_behind_a_loop(self):
        for node in self.walk(ast.Assign):
            self.assertEqual(len(node.targets), 1)
        for node in self.walk((ast.For, ast.While)):
            self.assertEqual(node.orelse, [])

    def test_functions_are_plain(self):
        for node in self.walk((ast.FunctionDef, ast.ClassDef)):
            self.assertEqual(node.decorator_list, [])
        for node in self.walk(ast.arguments):
            self.assertEqual((node.vararg, node.kwarg, node.kwonlyargs, node.posonlyargs), (None, None, [], []))

    def test_values(self):
        for node in self.walk(ast.Constant):
            self.assertIn(node.value.__class__, (int, str, bool, None.__class__))

    def test_imports(self):
        modules = {"grantsback." + path.stem for path in FILES}
        for node in self.walk(ast.ImportFrom):
            self.assertEqual(node.level, 0)
            self.assertIn(node.module, modules)
            for name in node.names:
                self.assertIsNone(name.asname)
                self.assertNotEqual(name.name, "*")

    def test_imports_are_from_the_very_file_and_go_in_no_circle(self):
        drawn = {}
        defined = {}
        for path, text, tree in self.each():
            rows = [node for node in tree.body if isinstance(node, ast.ImportFrom)]
            drawn[path.stem] = {row.module.split(".")[1] for row in rows}
            own = [node for node in tree.body if isinstance(node, (ast.FunctionDef, ast.ClassDef, ast.Assign))]
            defined[path.stem] = [node.targets[0].id if isinstance(node, ast.Assign) else node.name for node in own]
        for node in self.walk(ast.ImportFrom):
            for name in node.names:
                self.assertIn(name.name, defined[node.module.split(".")[1]])
        done = set()
        while len(done) < len(drawn):
            free = {stem for stem in drawn if stem not in done and drawn[stem] <= done}
            self.assertNotEqual(free, set())
            done |= free

    def test_comprehensions_and_keywords(self):
        for node in self.walk(ast.ListComp):
            self.assertEqual(len(node.generators), 1)
            self.assertLessEqual(len(node.generators[0].ifs), 1)
        for node in self.walk(ast.Call):
            if node.keywords:
                self.assertIsInstance(node.func, ast.Name)
                self.assertLessEqual({keyword.arg for keyword in node.keywords}, KEYWORDS.get(node.func.id, set()))

    def test_names(self):
        python = set(dir(__import__("builtins")))
        for path, text, tree in self.each():
            bound = names_bound(tree)
            for name in bound:
                if name != "__init__":
                    self.assertRegex(name, PLAIN_NAME)
                self.assertFalse(name in python, name)
            for node in ast.walk(tree):
                if isinstance(node, ast.Name) and node.id not in bound:
                    self.assertIn(node.id, OWN_NAMES_OF_PYTHON)

    def test_the_top_of_a_file(self):
        for path, text, tree in self.each():
            self.assertIsNotNone(ast.get_docstring(tree))
            top = []
            for node in tree.body[1:]:
                self.assertIsInstance(node, (ast.ImportFrom, ast.FunctionDef, ast.ClassDef, ast.Assign))
                top += [node.name] if hasattr(node, "name") else []
                top += [node.targets[0].id] if isinstance(node, ast.Assign) else []
                top += [name.name for name in node.names] if isinstance(node, ast.ImportFrom) else []
            self.assertEqual(len(top), len(set(top)))

    def test_methods_and_values_of_objects(self):
        methods = {node.name for owner in self.walk(ast.ClassDef) for node in owner.body
                   if isinstance(node, ast.FunctionDef)}
        values = {node.attr for node in self.walk(ast.Attribute) if isinstance(node.ctx, ast.Store)}
        self.assertEqual(methods & values, set())
        for node in self.walk(ast.Attribute):
            self.assertIn(node.attr, methods | values | OWN_METHODS_OF_PYTHON)
        taken = {name for kind in (str, int, list, dict, set, bytes) for name in dir(kind)}
        self.assertEqual((methods | values) & taken, {"__init__"})


if __name__ == "__main__":
    unittest.main()
