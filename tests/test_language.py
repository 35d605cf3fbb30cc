"""The form of the package's own files, as far as it can be told by a walk over them."""

import ast
import builtins
import unittest
from pathlib import Path

PACKAGE = Path(__file__).resolve().parent.parent / "forgetproof"
FILES = sorted(PACKAGE.rglob("*.py"))
KNOWN = (
    "len range enumerate zip min max sum abs sorted reversed int str bool list tuple dict set "
    "frozenset isinstance ord repr any all divmod Exception ValueError TypeError KeyError "
    "IndexError LookupError ZeroDivisionError ArithmeticError OverflowError RuntimeError "
    "NotImplementedError AttributeError StopIteration"
).split()
LEFT_OUT = (
    ast.With, ast.Match, ast.Delete, ast.Global, ast.Nonlocal, ast.Assert, ast.Yield,
    ast.YieldFrom, ast.AsyncFunctionDef, ast.Await, ast.Import, ast.SetComp, ast.DictComp,
    ast.GeneratorExp, ast.NamedExpr, ast.Starred, ast.Div, ast.MatMult, ast.AnnAssign,
)
WORDS_OUT = (
    "type typing typing_extensions enum Enum IntEnum StrEnum Flag IntFlag Generic Protocol ABC "
    "ABCMeta namedtuple NamedTuple TypedDict TYPE_CHECKING abstractmethod"
).split()
NAMES_OUT = "register mro elements open input version_info with_traceback add_note".split()
METHODS = (
    "append clear copy count endswith extend find get index insert isalnum isalpha isdigit islower "
    "isspace isupper items join keys ljust lower lstrip partition pop remove replace reverse rfind "
    "rjust rpartition rsplit rstrip setdefault split splitlines startswith strip update upper "
    "values zfill bit_length"
).split()


def bound_names(tree):
    """Every name that is given a meaning: functions, parameters, locals, classes, imports."""
    for node in ast.walk(tree):
        if isinstance(node, (ast.FunctionDef, ast.ClassDef)):
            yield node.name
        elif isinstance(node, ast.arg):
            yield node.arg
        elif isinstance(node, ast.Name) and isinstance(node.ctx, ast.Store):
            yield node.id
        elif isinstance(node, ast.alias):
            yield node.asname or node.name
        elif isinstance(node, ast.ExceptHandler) and node.name:
            yield node.name


def own_attributes(tree):
    found = [node.name for node in ast.walk(tree) if isinstance(node, ast.FunctionDef)]
    return found + [node.attr for node in ast.walk(tree)
                    if isinstance(node, ast.Attribute) and isinstance(node.ctx, ast.Store)]


class TheForm(unittest.TestCase):
    def setUp(self):
        self.trees = {path: ast.parse(path.read_text("ascii")) for path in FILES}
        self.assertIn(PACKAGE / "reasons.py", self.trees)

    def each_node(self):
        for path, tree in self.trees.items():
            for node in ast.walk(tree):
                yield node, f"{path.name}:{getattr(node, 'lineno', 0)}"

    def test_files(self):
        for path in PACKAGE.rglob("*"):
            if "__pycache__" not in path.parts:
                self.assertTrue(path.suffix == ".py" and path.name == path.name.lower(), path)

    def test_sizes_and_signs(self):
        for path in FILES:
            text = path.read_text("ascii")
            self.assertLess(len(text.splitlines()), 400, path)
            self.assertTrue(all(" " <= sign <= "~" or sign == "\n" for sign in text), path)
            self.assertTrue(all(len(line) <= 120 for line in text.splitlines()), path)
        for node, where in self.each_node():
            if isinstance(node, ast.FunctionDef):
                self.assertLessEqual(node.end_lineno - node.lineno + 1, 40, where)

    def test_no_word_that_is_left_out(self):
        for path in FILES:
            text = "".join(sign if sign.isalnum() or sign == "_" else " "
                           for sign in path.read_text("ascii"))
            self.assertFalse(set(text.split()) & set(WORDS_OUT), path)
            for part in ("dataclass", "overload", "contextmanager"):
                self.assertNotIn(part, text, path)

    def test_statements_and_expressions(self):
        for node, where in self.each_node():
            self.assertNotIsInstance(node, LEFT_OUT, where)
            if isinstance(node, ast.Constant):
                self.assertNotIsInstance(node.value, (float, bytes, complex), where)
            if isinstance(node, (ast.For, ast.While)):
                self.assertFalse(node.orelse, where)
            if isinstance(node, ast.Try):
                self.assertFalse(node.finalbody, where)
            if isinstance(node, ast.Assign):
                self.assertEqual(len(node.targets), 1, where)
            if isinstance(node, ast.ListComp):
                self.assertEqual(len(node.generators), 1, where)
                self.assertLessEqual(len(node.generators[0].ifs), 1, where)
            if isinstance(node, (ast.FunctionDef, ast.ClassDef)):
                self.assertFalse(node.decorator_list, where)
            if isinstance(node, ast.FunctionDef):
                rest = node.args
                self.assertFalse(rest.vararg or rest.kwarg or rest.kwonlyargs, where)

    def test_imports(self):
        defined = {}
        for path, tree in self.trees.items():
            defined[f"forgetproof.{path.stem}"] = {
                node.name for node in tree.body if isinstance(node, (ast.FunctionDef, ast.ClassDef))
            } | {node.targets[0].id for node in tree.body if isinstance(node, ast.Assign)}
        for node, where in self.each_node():
            if isinstance(node, ast.ImportFrom):
                self.assertEqual(node.level, 0, where)
                for name in node.names:
                    self.assertIn(name.name, defined[node.module], where)

    def test_no_two_files_draw_from_one_another(self):
        draws = {f"forgetproof.{path.stem}": {node.module for node in ast.walk(tree)
                                              if isinstance(node, ast.ImportFrom)}
                 for path, tree in self.trees.items()}
        while draws:
            ready = [name for name in draws if not draws[name] & set(draws)]
            self.assertTrue(ready, draws)
            draws = {name: draws[name] for name in draws if name not in ready}

    def test_names(self):
        for path, tree in self.trees.items():
            bound = list(bound_names(tree))
            for name in bound:
                self.assertTrue(name in ("__init__",) or not name.startswith("_"), name)
                self.assertNotIn(name, dir(builtins) + NAMES_OUT, path)
            for node in ast.walk(tree):
                if isinstance(node, ast.Name):
                    self.assertIn(node.id, bound + KNOWN, path)

    def test_locals_are_not_called_like_what_stands_at_the_top(self):
        for path, tree in self.trees.items():
            tops = [node.name for node in tree.body if hasattr(node, "name")]
            tops += [name.name for node in tree.body if isinstance(node, ast.ImportFrom)
                     for name in node.names]
            self.assertEqual(len(tops), len(set(tops)), path)
            for node in ast.walk(tree):
                if isinstance(node, (ast.FunctionDef, ast.Lambda)):
                    for body in ast.walk(node):
                        if isinstance(body, ast.arg):
                            self.assertNotIn(body.arg, tops, path)
                        if isinstance(body, ast.Name) and isinstance(body.ctx, ast.Store):
                            self.assertNotIn(body.id, tops, path)

    def test_methods_and_attributes(self):
        own = [name for tree in self.trees.values() for name in own_attributes(tree)]
        for node, where in self.each_node():
            if isinstance(node, ast.Attribute):
                self.assertIn(node.attr, METHODS + own, where)
                self.assertNotIn(node.attr, NAMES_OUT + ["format", "format_map"], where)


if __name__ == "__main__":
    unittest.main()
