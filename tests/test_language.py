"""The part of Python that the package keeps to: what can be seen in the written code.

Where the package has no need of a form that the rules allow, this is narrower than they are.
"""

import ast
import re
import unittest
from pathlib import Path

PACKAGE = Path(__file__).resolve().parent.parent / "taperbench"
FILES = sorted(PACKAGE.glob("*.py"))

NODES = (
    ast.Module, ast.ImportFrom, ast.alias, ast.FunctionDef, ast.arguments, ast.arg, ast.ClassDef, ast.Assign,
    ast.AugAssign, ast.If, ast.While, ast.For, ast.Return, ast.Break, ast.Continue, ast.Pass, ast.Raise, ast.Expr,
    ast.Name, ast.Constant, ast.List, ast.Tuple, ast.Dict, ast.BinOp, ast.UnaryOp, ast.BoolOp, ast.Compare, ast.IfExp,
    ast.Call, ast.Attribute, ast.Subscript, ast.Slice, ast.ListComp, ast.comprehension, ast.operator, ast.unaryop,
    ast.boolop, ast.cmpop, ast.expr_context,
)
BUILT_IN = ("len range enumerate zip min max sum abs sorted reversed int str bool list tuple dict isinstance "
            "any all divmod Exception ValueError").split()
METHODS = ("append clear copy count endswith extend find get index insert isdigit items join keys pop remove replace "
           "reverse setdefault split startswith strip update values zfill bit_length").split()
WORDS = ("type typing typing_extensions enum Enum IntEnum StrEnum Flag IntFlag Generic Protocol ABC ABCMeta "
         "namedtuple NamedTuple TypedDict TYPE_CHECKING abstractmethod").split()


def parsed(path):
    return ast.parse(path.read_text(encoding="utf-8"))


def bound_names(tree):
    """Every name that a file binds: imports, functions, classes, parameters, and what is assigned."""
    names = set()
    for node in ast.walk(tree):
        if isinstance(node, (ast.FunctionDef, ast.ClassDef)):
            names.add(node.name)
        elif isinstance(node, ast.arg):
            names.add(node.arg)
        elif isinstance(node, ast.alias):
            names.add(node.asname or node.name)
        elif isinstance(node, ast.Name) and isinstance(node.ctx, ast.Store):
            names.add(node.id)
    return names


class Language(unittest.TestCase):
    def test_files(self):
        others = [path.name for path in PACKAGE.iterdir() if path not in FILES and path.name != "__pycache__"]
        self.assertEqual(others, [])
        self.assertIn(PACKAGE / "__init__.py", FILES)
        for path in FILES:
            self.assertRegex(path.name, r"\A[a-z][a-z0-9]*\.py\Z|\A__init__\.py\Z")

    def test_sizes_and_signs(self):
        for path in FILES:
            text = path.read_text(encoding="utf-8")
            rows = text.split("\n")
            self.assertLessEqual(len(rows), 400, path.name)
            self.assertLessEqual(max(len(row) for row in rows), 120, path.name)
            self.assertRegex(text, r"\A[ -~\n]*\Z", path.name)
            self.assertEqual([word for word in WORDS if re.search(rf"\b{word}\b", text)], [], path.name)
            for node in ast.walk(parsed(path)):
                if isinstance(node, ast.FunctionDef):
                    self.assertLessEqual(node.end_lineno - node.lineno + 1, 40, node.name)

    def test_only_plain_forms(self):
        for path in FILES:
            for node in ast.walk(parsed(path)):
                where = (path.name, getattr(node, "lineno", 0), type(node).__name__)
                self.assertIsInstance(node, NODES, where)
                self.assertNotIsInstance(node, (ast.Div, ast.MatMult, ast.Pow), where)
                if isinstance(node, ast.Constant):
                    self.assertIn(type(node.value), (int, str, bool, type(None)), where)
                if isinstance(node, ast.Assign):
                    self.assertEqual(len(node.targets), 1, where)
                if isinstance(node, (ast.FunctionDef, ast.ClassDef)):
                    self.assertEqual(node.decorator_list, [], where)
                if isinstance(node, (ast.For, ast.While)):
                    self.assertEqual(node.orelse, [], where)
                if isinstance(node, ast.arguments):
                    self.assertFalse(node.vararg or node.kwarg or node.kwonlyargs or node.posonlyargs, where)
                if isinstance(node, ast.Compare):
                    for sign, other in zip(node.ops, node.comparators):
                        if isinstance(sign, (ast.Is, ast.IsNot)):
                            self.assertIsInstance(other, ast.Constant, where)

    def test_imports_are_the_packages_own_without_a_ring(self):
        drawn = {}
        for path in FILES:
            rows = [node for node in ast.walk(parsed(path)) if isinstance(node, ast.ImportFrom)]
            self.assertTrue(all(row.level == 0 for row in rows), path.name)
            drawn["taperbench." + path.stem] = {row.module for row in rows}
        self.assertEqual(drawn["taperbench.__init__"], set())
        while drawn:
            done = [name for name, modules in drawn.items() if not modules & set(drawn)]
            self.assertTrue(done, drawn)
            for name in done:
                self.assertTrue(all((PACKAGE / (m.split(".")[1] + ".py")) in FILES for m in drawn.pop(name)))

    def test_the_top_of_a_file(self):
        for path in FILES:
            tree = parsed(path)
            self.assertIsNotNone(ast.get_docstring(tree), path.name)
            kinds = (ast.ImportFrom, ast.FunctionDef, ast.ClassDef, ast.Assign)
            for node in tree.body[1:]:
                self.assertIsInstance(node, kinds, path.name)
            tops = [node.targets[0].id for node in tree.body if isinstance(node, ast.Assign)]
            tops += [node.name for node in tree.body if isinstance(node, (ast.FunctionDef, ast.ClassDef))]
            self.assertEqual(len(tops), len(set(tops)), path.name)

    def test_names(self):
        for path in FILES:
            tree = parsed(path)
            bound = bound_names(tree)
            for name in bound:
                self.assertRegex(name, r"\A[A-Za-z][A-Za-z0-9_]*\Z|\A__init__\Z", path.name)
            python_own = set(dir(__import__("builtins")))
            self.assertEqual(bound & python_own, set(), path.name)
            read = {node.id for node in ast.walk(tree) if isinstance(node, ast.Name)}
            self.assertEqual(read - bound - set(BUILT_IN), set(), path.name)

    def test_methods_and_values_of_objects(self):
        methods, stored, used = set(), set(), set()
        for path in FILES:
            for node in ast.walk(parsed(path)):
                if isinstance(node, ast.ClassDef):
                    self.assertTrue(all(isinstance(part, ast.FunctionDef) for part in node.body), path.name)
                    methods |= {part.name for part in node.body}
                if isinstance(node, ast.Attribute):
                    (stored if isinstance(node.ctx, ast.Store) else used).add(node.attr)
        self.assertEqual(methods & stored, set())
        self.assertEqual(used - methods - stored - set(METHODS), set())
        python_own = {name for kind in (str, int, list, dict, set, bytes) for name in dir(kind)}
        self.assertEqual((methods | stored) & python_own - {"__init__"}, set())


if __name__ == "__main__":
    unittest.main()
