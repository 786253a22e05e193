"""The package keeps to its small part of Python, as far as a look at the files can tell."""

import ast
import os
import re
import unittest

PACKAGE = os.path.join(os.path.dirname(os.path.abspath(__file__)), "..", "sharedots")

STATEMENTS = (ast.Module, ast.FunctionDef, ast.arguments, ast.arg, ast.Assign, ast.If, ast.While, ast.For, ast.Return,
              ast.Break, ast.Continue, ast.Pass, ast.Expr, ast.ImportFrom, ast.alias)
EXPRESSIONS = (ast.Constant, ast.Name, ast.Load, ast.Store, ast.List, ast.Tuple, ast.BinOp, ast.UnaryOp, ast.BoolOp,
               ast.And, ast.Or, ast.Not, ast.Compare, ast.IfExp, ast.Call, ast.Attribute, ast.Subscript, ast.Slice,
               ast.ListComp, ast.comprehension, ast.operator, ast.unaryop, ast.cmpop)
BUILT_IN = ("len", "range", "enumerate", "zip", "min", "max", "sum", "abs", "sorted", "reversed", "int", "str", "bool",
            "list", "tuple", "dict", "isinstance", "any", "all", "divmod")
METHODS = ("append", "count", "extend", "index", "insert", "copy", "pop", "remove")
WORDS = re.compile(r"\b(type|typing|typing_extensions|enum|Enum|IntEnum|StrEnum|Flag|IntFlag|Generic|Protocol|ABC|"
                   r"ABCMeta|namedtuple|NamedTuple|TypedDict|TYPE_CHECKING|abstractmethod)\b|"
                   r"dataclass|overload|contextmanager")


def package_files():
    return sorted(name for name in os.listdir(PACKAGE) if name != "__pycache__")


def text_of(name):
    with open(os.path.join(PACKAGE, name), encoding="utf-8", newline="") as file:
        return file.read()


class Language(unittest.TestCase):

    def walk(self):
        for name in package_files():
            for node in ast.walk(ast.parse(text_of(name))):
                yield f"{name}:{getattr(node, 'lineno', 0)}", node

    def test_files(self):
        self.assertEqual(package_files(), ["__init__.py", "desk.py"])

    def test_signs_and_sizes(self):
        for name in package_files():
            text = text_of(name)
            self.assertTrue(all(sign == "\n" or " " <= sign <= "~" for sign in text), name)
            self.assertIsNone(WORDS.search(text), name)
            rows = text.split("\n")
            self.assertLessEqual(len(rows), 400, name)
            self.assertLessEqual(max(len(row) for row in rows), 120, name)

    def test_forms(self):
        for place, node in self.walk():
            self.assertIsInstance(node, STATEMENTS + EXPRESSIONS, place)
            if isinstance(node, ast.FunctionDef):
                self.assertLessEqual(node.end_lineno - node.lineno + 1, 40, place)
                self.assertEqual(node.decorator_list, [], place)
                self.assertIsNone(node.args.vararg or node.args.kwarg, place)
            elif isinstance(node, ast.ImportFrom):
                self.assertTrue(node.level == 0 and node.module.startswith("sharedots."), place)
            elif isinstance(node, (ast.For, ast.While)):
                self.assertEqual(node.orelse, [], place)
            elif isinstance(node, ast.Assign):
                self.assertEqual([isinstance(target, ast.Name) for target in node.targets], [True], place)
            elif isinstance(node, ast.ListComp):
                self.assertTrue(len(node.generators) == 1 and len(node.generators[0].ifs) < 2, place)
            elif isinstance(node, ast.Constant):
                self.assertTrue(node.value is None or type(node.value) in (int, str, bool), place)
            self.assertNotIsInstance(node, (ast.Div, ast.MatMult, ast.Pow, ast.Is, ast.IsNot), place)

    def test_names(self):
        for name in package_files():
            tree = ast.parse(text_of(name))
            nodes = list(ast.walk(tree))
            stored = [node.id for node in nodes if isinstance(node, ast.Name) and isinstance(node.ctx, ast.Store)]
            defined = [node.name for node in nodes if isinstance(node, ast.FunctionDef)]
            own = stored + defined + [node.arg for node in nodes if isinstance(node, ast.arg)]
            for word in own:
                self.assertRegex(word, r"^[A-Za-z][A-Za-z0-9_]*$", name)
                self.assertNotIn(word, dir(__builtins__) if not isinstance(__builtins__, dict) else __builtins__, name)
            for node in nodes:
                if isinstance(node, ast.Name):
                    self.assertIn(node.id, own + list(BUILT_IN), name)
                elif isinstance(node, ast.Attribute):
                    self.assertIn(node.attr, METHODS, name)

    def test_top_of_a_module_keeps_nothing(self):
        for name in package_files():
            body = ast.parse(text_of(name)).body
            bound = []
            for node in body:
                if isinstance(node, ast.Assign):
                    self.assertIs(type(ast.literal_eval(node.value)), int, name)
                    bound.append(node.targets[0].id)
                elif isinstance(node, ast.FunctionDef):
                    bound.append(node.name)
            self.assertEqual(len(bound), len(set(bound)), name)


if __name__ == "__main__":
    unittest.main()
