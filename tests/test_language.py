"""The form of the package's files: what of LANGUAGE.md a walk through the code can see."""

import ast
import builtins
import pathlib
import re
import unittest

PACKAGE = pathlib.Path(__file__).resolve().parent.parent / "steptimes"

STATEMENTS = (ast.Assign, ast.AugAssign, ast.If, ast.While, ast.For, ast.Return, ast.Break, ast.Continue, ast.Pass, ast.Raise,
              ast.Try, ast.Expr, ast.FunctionDef, ast.ClassDef, ast.ImportFrom)
EXPRESSIONS = (ast.Constant, ast.List, ast.Tuple, ast.Dict, ast.BinOp, ast.UnaryOp, ast.BoolOp, ast.Compare, ast.IfExp,
               ast.Call, ast.Attribute, ast.Subscript, ast.Slice, ast.ListComp, ast.Name, ast.Lambda)
OWN_NAMES = """len range enumerate zip min max sum abs sorted reversed int str bool list tuple dict set frozenset isinstance ord
repr any all divmod Exception ValueError TypeError KeyError IndexError LookupError ZeroDivisionError ArithmeticError
OverflowError RuntimeError NotImplementedError AttributeError StopIteration""".split()
METHODS = """append clear copy count endswith extend find get index insert isalnum isalpha isdigit islower isspace isupper items
join keys ljust lower lstrip partition pop remove replace reverse rfind rjust rpartition rsplit rstrip setdefault split
splitlines startswith strip update upper values zfill bit_length""".split()
WORDS_OUT = """type typing typing_extensions enum Enum IntEnum StrEnum Flag IntFlag Generic Protocol ABC ABCMeta namedtuple
NamedTuple TypedDict TYPE_CHECKING abstractmethod register mro elements open input version_info with_traceback
add_note""".split()
WALKED_AT_ONCE = ("zip", "enumerate", "reversed", "range")


def files():
    return sorted(PACKAGE.rglob("*.py"))


def walk_all():
    for file in files():
        for node in ast.walk(ast.parse(file.read_text("utf-8"))):
            yield file.name, node


def bound_names(tree):
    """All names that are bound within a file, with the node that binds each."""
    for node in ast.walk(tree):
        if isinstance(node, ast.Name) and isinstance(node.ctx, ast.Store):
            yield node.id, node
        elif isinstance(node, ast.arg):
            yield node.arg, node
        elif isinstance(node, (ast.FunctionDef, ast.ClassDef)):
            yield node.name, node


class Language(unittest.TestCase):
    def test_files(self):
        kept = [path for path in PACKAGE.rglob("*") if "__pycache__" not in path.parts]
        self.assertTrue(all(re.fullmatch(r"[a-z][a-z0-9_]*\.py|__init__\.py", path.name) for path in kept), kept)
        self.assertIn(PACKAGE / "__init__.py", kept)
        for path in kept:
            self.assertFalse(path.name != "__init__.py" and hasattr(builtins, path.stem), path)

    def test_size_and_signs(self):
        for file in files():
            rows = file.read_text("utf-8").split("\n")
            self.assertLessEqual(len(rows), 400, file)
            for row in rows:
                self.assertLessEqual(len(row), 120, (file, row))
                self.assertTrue(all(" " <= sign <= "~" for sign in row), (file, row))
                self.assertFalse(set(WORDS_OUT) & set(re.findall(r"\w+", row)), (file, row))
        for name, node in walk_all():
            if isinstance(node, ast.FunctionDef):
                self.assertLessEqual(node.end_lineno - node.lineno + 1, 40, (name, node.name))

    def test_statements_and_expressions(self):
        for name, node in walk_all():
            where = (name, getattr(node, "lineno", None), type(node).__name__)
            if isinstance(node, ast.stmt):
                self.assertIsInstance(node, STATEMENTS, where)
            if isinstance(node, ast.expr):
                self.assertIsInstance(node, EXPRESSIONS, where)
            if isinstance(node, ast.Constant):
                self.assertIn(type(node.value), (int, str, bool, type(None)), where)
            if isinstance(node, (ast.Div, ast.MatMult, ast.Pow)):
                self.fail(where)
            if isinstance(node, ast.Assign):
                self.assertEqual(len(node.targets), 1, where)
                self.assertNotIsInstance(node.targets[0], (ast.Tuple, ast.List), where)
            if isinstance(node, ast.ListComp):
                self.assertEqual(len(node.generators), 1, where)
                self.assertLessEqual(len(node.generators[0].ifs), 1, where)
                self.assertNotIsInstance(node.elt, ast.ListComp, where)
            if isinstance(node, (ast.For, ast.While)):
                self.assertEqual(node.orelse, [], where)
            if isinstance(node, ast.Compare):
                for sign, side in zip(node.ops, node.comparators):
                    if isinstance(sign, (ast.Is, ast.IsNot)):
                        self.assertIsInstance(side, ast.Constant, where)
            if isinstance(node, (ast.FunctionDef, ast.ClassDef)):
                self.assertEqual(node.decorator_list, [], where)
            if isinstance(node, ast.FunctionDef):
                args = node.args
                self.assertFalse(args.vararg or args.kwarg or args.kwonlyargs or args.posonlyargs or node.returns, where)

    def test_tops(self):
        for file in files():
            names = []
            for node in ast.parse(file.read_text("utf-8")).body:
                where = (file.name, node.lineno)
                if isinstance(node, ast.Expr):
                    self.assertIsInstance(node.value, ast.Constant, where)
                elif isinstance(node, ast.Assign):
                    ast.literal_eval(node.value)
                    names.append(node.targets[0].id)
                elif isinstance(node, ast.ImportFrom):
                    self.assertRegex(node.module, r"^steptimes\.[a-z_]+$", where)
                    names += [alias.name for alias in node.names]
                    self.assertTrue(all(alias.asname is None and alias.name != "*" for alias in node.names), where)
                else:
                    self.assertIsInstance(node, (ast.FunctionDef, ast.ClassDef), where)
                    names.append(node.name)
            self.assertEqual(len(names), len(set(names)), file)

    def test_imports_come_from_the_file_that_defines_and_go_no_round(self):
        drawn = {}
        for file in files():
            tree = ast.parse(file.read_text("utf-8"))
            drawn[file.stem] = {node.module.split(".")[1] for node in tree.body if isinstance(node, ast.ImportFrom)}
            for node in tree.body:
                if isinstance(node, ast.ImportFrom):
                    source = ast.parse((PACKAGE / (node.module.split(".")[1] + ".py")).read_text("utf-8"))
                    own = [name for name, binder in bound_names(source)]
                    self.assertTrue(all(alias.name in own for alias in node.names), (file.name, node.lineno))
        while drawn:
            free = [name for name in drawn if not drawn[name] & set(drawn)]
            self.assertTrue(free, drawn)
            drawn = {name: row for name, row in drawn.items() if name not in free}

    def test_names(self):
        for file in files():
            tree = ast.parse(file.read_text("utf-8"))
            taken = [alias.name for node in tree.body if isinstance(node, ast.ImportFrom) for alias in node.names]
            taken += [node.name for node in tree.body if isinstance(node, ast.ClassDef)]
            bound = list(bound_names(tree))
            for name, node in bound:
                self.assertRegex(name, r"^([A-Za-z][A-Za-z0-9_]*|__init__)$", (file.name, node.lineno))
                if not isinstance(node, ast.FunctionDef):
                    self.assertFalse(hasattr(builtins, name), (file.name, name))
                if not isinstance(node, ast.ClassDef):
                    self.assertNotIn(name, taken, (file.name, node.lineno))
            known = OWN_NAMES + taken + [name for name, node in bound]
            for node in ast.walk(tree):
                if isinstance(node, ast.Name):
                    self.assertIn(node.id, known, (file.name, node.lineno))

    def test_methods_and_values(self):
        own = {node.name for name, node in walk_all() if isinstance(node, ast.FunctionDef)}
        values = {node.attr for name, node in walk_all()
                  if isinstance(node, ast.Attribute) and isinstance(node.ctx, ast.Store)}
        pythons = {name for kind in (str, int, list, dict, set, bytes, tuple) for name in dir(kind)}
        self.assertFalse(values & own)
        self.assertFalse(values & pythons)
        for file in files():
            tree = ast.parse(file.read_text("utf-8"))
            called = [node.func for node in ast.walk(tree) if isinstance(node, ast.Call)]
            for node in ast.walk(tree):
                if isinstance(node, ast.Attribute):
                    allowed = METHODS + sorted(own) if node in called else sorted(values)
                    self.assertIn(node.attr, allowed, (file.name, node.lineno))

    def test_walked_at_once(self):
        for file in files():
            tree = ast.parse(file.read_text("utf-8"))
            walked = [node.iter for node in ast.walk(tree) if isinstance(node, (ast.For, ast.comprehension))]
            for node in ast.walk(tree):
                if isinstance(node, ast.Call) and isinstance(node.func, ast.Name) and node.func.id in WALKED_AT_ONCE:
                    self.assertIn(node, walked, (file.name, node.lineno))


if __name__ == "__main__":
    unittest.main()
