"""The rules for the package's own files that can be seen by reading them."""

import ast
import builtins
import pathlib
import re
import unittest

PACKAGE = pathlib.Path(__file__).resolve().parent.parent / "compasses"

BUILT_IN_NAMES = set(
    "len range enumerate zip min max sum abs sorted reversed int str bool list tuple dict set frozenset isinstance"
    " ord repr any all divmod".split()
)

METHODS = set(
    "append clear copy count extend find get index insert items join keys pop remove reverse setdefault update values"
    " bit_length".split()
)

WORDS_NOT_USED = set(
    "type typing typing_extensions enum Enum IntEnum StrEnum Flag IntFlag Generic Protocol ABC ABCMeta namedtuple"
    " NamedTuple TypedDict TYPE_CHECKING abstractmethod".split()
)

STATEMENTS = (
    ast.Module, ast.FunctionDef, ast.arguments, ast.arg, ast.Assign, ast.AugAssign, ast.If, ast.While, ast.For,
    ast.Return, ast.Break, ast.Continue, ast.Pass, ast.Expr,
)

EXPRESSIONS = (
    ast.Constant, ast.Name, ast.List, ast.Tuple, ast.Dict, ast.BinOp, ast.UnaryOp, ast.BoolOp, ast.Compare, ast.IfExp,
    ast.Call, ast.keyword, ast.Attribute, ast.Subscript, ast.Slice, ast.ListComp, ast.comprehension,
    ast.operator, ast.unaryop, ast.boolop, ast.cmpop, ast.expr_context,
)

OPERATORS_NOT_USED = (ast.Div, ast.MatMult, ast.Pow)


def package_files():
    return sorted(path for path in PACKAGE.rglob("*") if path.is_file() and "__pycache__" not in path.parts)


class Form(unittest.TestCase):
    def test_files(self):
        names = [path.relative_to(PACKAGE).as_posix() for path in package_files()]
        self.assertIn("__init__.py", names)
        self.assertIn("reach.py", names)
        for name in names:
            self.assertRegex(name, r"\A(__init__|[a-z][a-z0-9_]*)\.py\Z")

    def test_signs_and_sizes(self):
        for path in package_files():
            text = path.read_bytes().decode("utf-8")
            self.assertRegex(text, r"\A[ -~\n]*\Z", path)
            rows = text.split("\n")
            self.assertLessEqual(len(rows), 400, path)
            self.assertLessEqual(max(len(row) for row in rows), 120, path)
            self.assertEqual(set(re.findall(r"\w+", text)) & WORDS_NOT_USED, set(), path)

    def test_statements_and_expressions(self):
        for path, node in self.nodes():
            place = f"{path.name}:{getattr(node, 'lineno', '')}: {ast.dump(node)[:60]}"
            self.assertIsInstance(node, STATEMENTS + EXPRESSIONS, place)
            self.assertNotIsInstance(node, OPERATORS_NOT_USED, place)
            if isinstance(node, ast.Constant):
                self.assertIn(type(node.value), (int, str, bool, type(None)), place)
            if isinstance(node, ast.FunctionDef):
                self.assertLessEqual(node.end_lineno - node.lineno + 1, 40, place)
                self.assertEqual(node.decorator_list, [], place)
            if isinstance(node, ast.Attribute):
                self.assertIn(node.attr, METHODS, place)
            if isinstance(node, ast.Compare) and isinstance(node.ops[0], (ast.Is, ast.IsNot)):
                self.assertEqual(ast.dump(node.comparators[0]), ast.dump(ast.Constant(None)), place)
            if isinstance(node, ast.Compare) and len(node.ops) > 1:
                self.assertFalse(any(isinstance(op, (ast.Is, ast.IsNot)) for op in node.ops), place)

    def test_names(self):
        for path, node in self.nodes():
            for name in self.bound_names(node):
                self.assertRegex(name, r"\A[A-Za-z][A-Za-z0-9_]*\Z", path)
                self.assertFalse(hasattr(builtins, name), f"{path.name}: {name}")
            if isinstance(node, ast.Name) and hasattr(builtins, node.id):
                self.assertIn(node.id, BUILT_IN_NAMES, path)

    def test_nothing_can_be_kept_at_the_top(self):
        for path in package_files():
            bound = []
            for node in ast.parse(path.read_text()).body:
                if isinstance(node, ast.Assign):
                    bound.extend(target.id for target in node.targets)
                    self.assertIsInstance(ast.literal_eval(node.value), (int, str, tuple), path)
                elif isinstance(node, ast.FunctionDef):
                    bound.append(node.name)
                    self.assertEqual(node.args.defaults, [], path)
                else:
                    self.assertIsInstance(node, ast.Expr, path)
                    self.assertIsInstance(node.value, ast.Constant, path)
            self.assertEqual(len(bound), len(set(bound)), path)

    def nodes(self):
        for path in package_files():
            for node in ast.walk(ast.parse(path.read_text())):
                yield path, node

    def bound_names(self, node):
        if isinstance(node, ast.FunctionDef):
            return [node.name]
        if isinstance(node, ast.arg):
            return [node.arg]
        if isinstance(node, ast.Name) and isinstance(node.ctx, ast.Store):
            return [node.id]
        return []


if __name__ == "__main__":
    unittest.main()
