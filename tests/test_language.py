"""The package keeps to the small part of Python that it is written in.

What can be seen file by file: sizes, signs, statements, names and imports.
"""

import ast
import builtins
import os
import re
import unittest

FOLDER = os.path.join(os.path.dirname(os.path.dirname(os.path.abspath(__file__))), "keyhouse")

STATEMENTS = (
    ast.Assign, ast.AugAssign, ast.If, ast.While, ast.For, ast.Return, ast.Break, ast.Continue, ast.Pass,
    ast.Raise, ast.Try, ast.Expr, ast.FunctionDef, ast.ClassDef, ast.ImportFrom,
)
BARRED = (
    ast.GeneratorExp, ast.SetComp, ast.DictComp, ast.NamedExpr, ast.Starred, ast.Yield, ast.YieldFrom,
    ast.Await, ast.Div, ast.MatMult,
)
OWN_NAMES = set(
    "len range enumerate zip min max sum abs sorted reversed int str bool list tuple dict set frozenset"
    " isinstance ord repr any all divmod Exception ValueError TypeError KeyError IndexError LookupError"
    " ZeroDivisionError ArithmeticError OverflowError RuntimeError NotImplementedError".split()
)
WORDS = set(
    "type typing typing_extensions enum Enum IntEnum StrEnum Flag IntFlag Generic Protocol ABC ABCMeta"
    " namedtuple NamedTuple TypedDict TYPE_CHECKING abstractmethod".split()
)
METHODS = set(
    "append clear copy count endswith extend find get index insert isalnum isalpha isdigit islower isspace"
    " isupper items join keys ljust lower lstrip partition pop remove replace reverse rfind rjust rpartition"
    " rsplit rstrip setdefault split splitlines startswith strip update upper values zfill bit_length".split()
)

WALKED = set("zip enumerate reversed range items keys values".split())
WALKERS = set("list tuple dict sorted sum any all enumerate zip".split())


def called(call):
    return getattr(call.func, "id", getattr(call.func, "attr", None))


def files():
    return sorted(name for name in os.listdir(FOLDER) if name != "__pycache__")


def text_of(name):
    with open(os.path.join(FOLDER, name), encoding="utf-8") as file:
        return file.read()


def tree_of(name):
    return ast.parse(text_of(name))


class Language(unittest.TestCase):
    def test_files(self):
        self.assertIn("__init__.py", files())
        for name in files():
            self.assertRegex(name, r"\A(__init__|[a-z][a-z0-9_]*)\.py\Z")
            self.assertNotIn(name[:-3], dir(builtins))

    def test_sizes_and_signs(self):
        for name in files():
            lines = text_of(name).split("\n")
            self.assertLessEqual(len(lines), 400, name)
            for line in lines:
                self.assertLessEqual(len(line), 120, (name, line))
                self.assertRegex(line, r"\A[ -~]*\Z")
            for node in ast.walk(tree_of(name)):
                if isinstance(node, ast.FunctionDef):
                    self.assertLessEqual(node.end_lineno - node.lineno + 1, 40, (name, node.name))

    def test_words_that_stand_nowhere(self):
        for name in files():
            self.assertFalse(WORDS & set(re.findall(r"\w+", text_of(name))), name)

    def test_statements_and_expressions(self):
        for name in files():
            for node in ast.walk(tree_of(name)):
                if isinstance(node, ast.stmt):
                    self.assertIsInstance(node, STATEMENTS, (name, node.lineno))
                self.assertNotIsInstance(node, BARRED, name)
                if isinstance(node, ast.Assign):
                    self.assertEqual(len(node.targets), 1, (name, node.lineno))
                    self.assertNotIsInstance(node.targets[0], (ast.Tuple, ast.List), (name, node.lineno))
                if isinstance(node, (ast.For, ast.While)):
                    self.assertEqual(node.orelse, [], (name, node.lineno))
                if isinstance(node, ast.Constant):
                    self.assertIsInstance(node.value, (int, str, type(None)), (name, node.lineno))
                if isinstance(node, ast.BinOp) and isinstance(node.op, ast.Pow):
                    self.assertIsInstance(node.right, ast.Constant, (name, node.lineno))
                if isinstance(node, ast.Compare) and isinstance(node.ops[0], (ast.Is, ast.IsNot)):
                    self.assertIsInstance(node.comparators[0], ast.Constant, (name, node.lineno))

    def test_names(self):
        for name in files():
            for node in ast.walk(tree_of(name)):
                if isinstance(node, ast.arg):
                    self.assertNotIn(node.arg, dir(builtins), name)
                if isinstance(node, ast.Name):
                    self.assertFalse(node.id.startswith("_"), (name, node.id))
                    if isinstance(node.ctx, ast.Store):
                        self.assertNotIn(node.id, dir(builtins), (name, node.lineno))
                    elif node.id in dir(builtins):
                        self.assertIn(node.id, OWN_NAMES, (name, node.lineno))

    def test_methods_are_the_own_ones_or_plain_ones(self):
        own = set()
        for name in files():
            for node in ast.walk(tree_of(name)):
                if isinstance(node, ast.ClassDef):
                    own |= {part.name for part in node.body if isinstance(part, ast.FunctionDef)}
        for name in files():
            for node in ast.walk(tree_of(name)):
                if isinstance(node, ast.Call) and isinstance(node.func, ast.Attribute):
                    self.assertIn(node.func.attr, METHODS | own, (name, node.lineno))

    def test_no_name_is_a_method_and_a_value(self):
        methods = set()
        values = set()
        for name in files():
            for node in ast.walk(tree_of(name)):
                if isinstance(node, ast.ClassDef):
                    methods |= {part.name for part in node.body if isinstance(part, ast.FunctionDef)}
                if isinstance(node, ast.Attribute) and isinstance(node.ctx, ast.Store):
                    values.add(node.attr)
        self.assertFalse(methods & values)

    def test_what_is_walked_is_not_kept(self):
        for name in files():
            walked = set()
            for node in ast.walk(tree_of(name)):
                if isinstance(node, (ast.For, ast.comprehension)):
                    walked.add(ast.dump(node.iter, include_attributes=True))
                if isinstance(node, ast.Call) and isinstance(node.func, ast.Name) and node.func.id in WALKERS:
                    walked.add(ast.dump(node.args[0], include_attributes=True))
            for node in ast.walk(tree_of(name)):
                if isinstance(node, ast.Call) and called(node) in WALKED:
                    self.assertIn(ast.dump(node, include_attributes=True), walked, (name, node.lineno))

    def test_imports(self):
        modules = {"keyhouse." + name[:-3]: name for name in files()}
        drawn = {name: set() for name in files()}
        for name in files():
            for node in tree_of(name).body:
                if isinstance(node, ast.ImportFrom):
                    self.assertEqual(node.level, 0, name)
                    self.assertIn(node.module, modules, name)
                    drawn[name].add(modules[node.module])
                    defined = [part.name for part in tree_of(modules[node.module]).body if hasattr(part, "name")]
                    for alias in node.names:
                        self.assertIn(alias.name, defined, (name, alias.name))
        ready = set()
        while len(ready) < len(drawn):
            more = {name for name in drawn if name not in ready and drawn[name] <= ready}
            self.assertTrue(more, "two files draw from one another")
            ready |= more


if __name__ == "__main__":
    unittest.main()
