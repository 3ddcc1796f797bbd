"""Those rules of LANGUAGE.md that can be seen in the package's files at a glance."""

import ast
import builtins
import re
import unittest
from pathlib import Path

PACKAGE = Path(__file__).resolve().parent.parent / "onesquare"
FILES = sorted(PACKAGE.rglob("*.py"))

# Narrower than LANGUAGE.md: the package has no need of classes, errors, lambdas and f-strings so far.
NODES = (
    ast.Module, ast.FunctionDef, ast.arguments, ast.arg, ast.Return, ast.Assign, ast.AugAssign, ast.If, ast.For,
    ast.While, ast.Break, ast.Continue, ast.Pass, ast.Expr, ast.Name, ast.Constant, ast.List, ast.Tuple, ast.Dict,
    ast.BinOp, ast.BoolOp, ast.UnaryOp, ast.Compare, ast.IfExp, ast.Call, ast.keyword, ast.Attribute, ast.Subscript,
    ast.Slice, ast.ListComp, ast.comprehension, ast.expr_context, ast.operator, ast.boolop, ast.unaryop, ast.cmpop,
    ast.ImportFrom, ast.alias,
)
OWN_NAMES = """len range enumerate zip min max sum abs sorted reversed int str bool list tuple dict set frozenset
    isinstance ord repr any all divmod""".split()
METHODS = """append clear copy count endswith extend find get index insert isalnum isalpha isdigit islower isspace
    isupper items join keys ljust lower lstrip partition pop remove replace reverse rfind rjust rpartition rsplit
    rstrip setdefault split splitlines startswith strip update upper values zfill bit_length""".split()
WORDS = """type typing typing_extensions enum Enum IntEnum StrEnum Flag IntFlag Generic Protocol ABC ABCMeta namedtuple
    NamedTuple TypedDict TYPE_CHECKING abstractmethod""".split()


def nodes(path):
    return list(ast.walk(ast.parse(path.read_text(encoding="utf-8"))))


class Language(unittest.TestCase):
    def test_there_are_files(self):
        self.assertEqual([path.name for path in FILES if path.parent == PACKAGE][:1], ["__init__.py"])
        self.assertIn(PACKAGE / "packets.py", FILES)

    def test_nothing_else_lies_in_the_package(self):
        for path in PACKAGE.rglob("*"):
            if "__pycache__" not in path.parts:
                self.assertTrue(path.is_file() and re.fullmatch(r"[a-z0-9_]+\.py", path.name), path)

    def test_signs_and_size(self):
        for path in FILES:
            text = path.read_text(encoding="utf-8")
            self.assertTrue(all(sign == "\n" or " " <= sign <= "~" for sign in text), path)
            self.assertLessEqual(len(text.splitlines()), 400, path)
            self.assertLessEqual(max(map(len, text.splitlines()), default=0), 120, path)

    def test_words(self):
        for path in FILES:
            found = re.findall(r"\w+", path.read_text(encoding="utf-8"))
            self.assertEqual([word for word in found if word in WORDS], [], path)

    def test_statements_and_expressions(self):
        for path in FILES:
            for node in nodes(path):
                self.assertIsInstance(node, NODES, (path, getattr(node, "lineno", None)))

    def test_imports(self):
        for path in FILES:
            for node in nodes(path):
                if isinstance(node, ast.ImportFrom):
                    self.assertEqual((node.module.split(".")[0], node.level), ("onesquare", 0), path)

    def test_packets_imports_nothing(self):
        found = [node for node in nodes(PACKAGE / "packets.py") if isinstance(node, (ast.Import, ast.ImportFrom))]
        self.assertEqual(found, [])

    def test_functions(self):
        for path in FILES:
            for node in nodes(path):
                if isinstance(node, ast.FunctionDef):
                    self.assertLessEqual(node.end_lineno - node.lineno + 1, 40, (path, node.name))
                    self.assertFalse(node.decorator_list or node.args.vararg or node.args.kwarg, node.name)
                    self.assertFalse(node.args.kwonlyargs or node.args.posonlyargs, node.name)

    def test_names(self):
        for path in FILES:
            for node in nodes(path):
                if isinstance(node, ast.Name):
                    self.assertFalse(node.id.startswith("_"), (path, node.id))
                    if isinstance(node.ctx, ast.Load):
                        self.assertTrue(node.id in OWN_NAMES or not hasattr(builtins, node.id), (path, node.id))
                    else:
                        self.assertFalse(hasattr(builtins, node.id), (path, node.id))
                if isinstance(node, ast.arg):
                    self.assertFalse(hasattr(builtins, node.arg) or node.arg.startswith("_"), (path, node.arg))
                if isinstance(node, ast.Attribute):
                    self.assertIn(node.attr, METHODS, path)

    def test_a_name_at_the_top_is_bound_once(self):
        for path in FILES:
            bound = []
            for node in ast.parse(path.read_text(encoding="utf-8")).body:
                if isinstance(node, ast.FunctionDef):
                    bound.append(node.name)
                if isinstance(node, ast.Assign):
                    bound.extend(target.id for target in node.targets)
            self.assertEqual(len(bound), len(set(bound)), path)

    def test_one_target(self):
        for path in FILES:
            for node in nodes(path):
                if isinstance(node, ast.Assign):
                    self.assertEqual(len(node.targets), 1, (path, node.lineno))
                    self.assertNotIsInstance(node.targets[0], (ast.Tuple, ast.List), (path, node.lineno))

    def test_one_for_and_one_if_in_a_comprehension(self):
        for path in FILES:
            for node in nodes(path):
                if isinstance(node, ast.ListComp):
                    self.assertEqual(len(node.generators), 1, (path, node.lineno))
                    self.assertLessEqual(len(node.generators[0].ifs), 1, (path, node.lineno))

    def test_no_loop_with_else_and_no_float(self):
        for path in FILES:
            for node in nodes(path):
                if isinstance(node, (ast.For, ast.While)):
                    self.assertEqual(node.orelse, [], (path, node.lineno))
                if isinstance(node, ast.Constant):
                    self.assertIsInstance(node.value, (int, str, type(None)), (path, node.lineno))
                self.assertNotIsInstance(node, ast.Div, path)

    def test_is_stands_beside_none_true_and_false(self):
        for path in FILES:
            for node in nodes(path):
                if isinstance(node, ast.Compare) and any(isinstance(op, (ast.Is, ast.IsNot)) for op in node.ops):
                    beside = node.comparators[0]
                    self.assertTrue(isinstance(beside, ast.Constant) and beside.value in (None, True, False), path)


if __name__ == "__main__":
    unittest.main()
