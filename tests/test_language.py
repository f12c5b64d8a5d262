"""The package keeps to its small part of Python: what of that can be seen in the syntax."""

import ast
import builtins
import re
import unittest
from pathlib import Path

PACKAGE = Path(__file__).resolve().parent.parent / "filesgiven"

NODES = (
    "Module Expr Constant Assign AugAssign Name Load Store Attribute Subscript Slice Tuple List Dict Call keyword "
    "FunctionDef arguments arg ClassDef Return If While For Break Continue Pass ImportFrom alias BinOp UnaryOp BoolOp "
    "Compare IfExp ListComp comprehension Add Sub Mult FloorDiv Mod Pow BitAnd BitOr BitXor LShift RShift Invert Not "
    "USub And Or Eq NotEq Lt LtE Gt GtE In NotIn Is IsNot"
).split()
OWN_NAMES = (
    "len range enumerate zip min max sum abs sorted reversed int str bool list tuple dict set isinstance any all divmod"
).split()
METHODS = (
    "append clear copy count endswith extend find get index insert items join keys pop remove replace reverse "
    "setdefault split startswith strip update values bit_length"
).split()
WORDS = (
    "type typing typing_extensions enum Enum IntEnum StrEnum Flag IntFlag Generic Protocol ABC ABCMeta namedtuple "
    "NamedTuple TypedDict TYPE_CHECKING abstractmethod"
).split()


def sources():
    for path in sorted(PACKAGE.glob("*.py")):
        source = path.read_text(encoding="utf-8")
        yield path, source, ast.parse(source)


def defs_in(tree, kind):
    return [node for node in ast.walk(tree) if isinstance(node, kind)]


class Form(unittest.TestCase):
    def test_files(self):
        names = [path.name for path in PACKAGE.iterdir() if path.name != "__pycache__"]
        self.assertIn("__init__.py", names)
        for name in names:
            self.assertRegex(name, r"^[a-z_0-9]+\.py$")
            self.assertFalse(name != "__init__.py" and hasattr(builtins, name[:-3]))

    def test_signs_and_sizes(self):
        for path, source, tree in sources():
            rows = source.split("\n")
            self.assertLessEqual(len(rows), 400, path)
            self.assertTrue(all(sign == "\n" or " " <= sign <= "~" for sign in source), path)
            self.assertLessEqual(max(len(row) for row in rows), 120, path)
            for node in defs_in(tree, ast.FunctionDef):
                self.assertLessEqual(node.end_lineno - node.lineno + 1, 40, (path, node.name))
            for word in WORDS:
                self.assertIsNone(re.search(rf"\b{word}\b", source), (path, word))

    def test_nodes(self):
        for path, source, tree in sources():
            for node in ast.walk(tree):
                kind = node.__class__.__name__
                self.assertIn(kind, NODES, (path, getattr(node, "lineno", 0)))
                if kind == "Constant":
                    self.assertIn(node.value.__class__.__name__, ("int", "str", "bool", "NoneType"))
                if kind == "Assign":
                    self.assertEqual(len(node.targets), 1)
                    self.assertNotIsInstance(node.targets[0], (ast.Tuple, ast.List), (path, node.lineno))
                if kind in ("For", "While"):
                    self.assertEqual(node.orelse, [])

    def test_imports(self):
        draws = {}
        for path, source, tree in sources():
            rows = defs_in(tree, ast.ImportFrom)
            draws[path.stem] = [row.module.partition(".")[2] for row in rows]
            for row in rows:
                self.assertTrue(row.module.startswith("filesgiven."), path)
                defined = ast.parse((PACKAGE / f"{row.module.partition('.')[2]}.py").read_text())
                for drawn in row.names:
                    self.assertIn(drawn.name, top_names(defined), (path, drawn.name))
                    self.assertIsNone(drawn.asname)
                    self.assertRegex(source.split("\n", 1)[1], rf"(?s)\b{drawn.name}\b.*\b{drawn.name}\b", path)
        while draws:
            free = [stem for stem, modules in draws.items() if not any(module in draws for module in modules)]
            self.assertTrue(free, "files draw from one another")
            draws = {stem: modules for stem, modules in draws.items() if stem not in free}

    def test_names(self):
        methods, values = set(), set()
        for path, source, tree in sources():
            taken = set(top_names(tree)) | {alias.name for row in defs_in(tree, ast.ImportFrom) for alias in row.names}
            stored = {node.id for node in defs_in(tree, ast.Name) if isinstance(node.ctx, ast.Store)}
            stored |= {node.arg for node in defs_in(tree, ast.arg)}
            for name in stored | taken:
                self.assertFalse(hasattr(builtins, name) or name.startswith("_"), (path, name))
            for node in defs_in(tree, ast.Name):
                if hasattr(builtins, node.id):
                    self.assertIn(node.id, OWN_NAMES, (path, node.lineno))
            for node in defs_in(tree, ast.ClassDef):
                methods |= {part.name for part in node.body if isinstance(part, ast.FunctionDef)}
            for node in defs_in(tree, ast.Attribute):
                if isinstance(node.ctx, ast.Store):
                    values.add(node.attr)
        self.assertEqual(methods & values, set())
        for name in methods - {"__init__"} | values:
            for owner in (str, int, list, dict, set, bytes, tuple):
                self.assertFalse(hasattr(owner, name), name)
        for path, source, tree in sources():
            for node in defs_in(tree, ast.Attribute):
                self.assertIn(node.attr, methods | values | set(METHODS), (path, node.lineno))

    def test_functions(self):
        for path, source, tree in sources():
            for node in defs_in(tree, ast.FunctionDef):
                taken = node.args
                self.assertFalse(taken.vararg or taken.kwarg or taken.kwonlyargs or taken.posonlyargs, node.name)
                self.assertFalse(node.decorator_list or node.returns, node.name)

    def test_each_top_name_once(self):
        for path, source, tree in sources():
            names = top_names(tree)
            self.assertEqual(len(names), len(set(names)), path)


def top_names(tree):
    names = []
    for node in tree.body:
        if isinstance(node, (ast.FunctionDef, ast.ClassDef)):
            names.append(node.name)
        if isinstance(node, ast.Assign):
            names.append(node.targets[0].id)
    return names


if __name__ == "__main__":
    unittest.main()
