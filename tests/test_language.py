"""The package's own files keep to the small part of Python that they are written in."""

import ast
import builtins
import pathlib
import re
import unittest

FOLDER = pathlib.Path(__file__).resolve().parent.parent / "toldgraph"
FILES = sorted(path for path in FOLDER.rglob("*") if path.is_file() and path.parent.name != "__pycache__")

BUILT_IN = set("""len range enumerate zip min max sum abs sorted reversed int str bool list tuple dict set frozenset
isinstance ord repr any all divmod Exception ValueError TypeError KeyError IndexError LookupError ZeroDivisionError
ArithmeticError OverflowError RuntimeError NotImplementedError AttributeError StopIteration""".split())
METHODS = set("""append clear copy count endswith extend find get index insert isalnum isalpha isdigit islower isspace
isupper items join keys ljust lower lstrip partition pop remove replace reverse rfind rjust rpartition rsplit rstrip
setdefault split splitlines startswith strip update upper values zfill bit_length""".split())
STATEMENTS = (ast.Assign, ast.AugAssign, ast.If, ast.While, ast.For, ast.Return, ast.Break, ast.Continue, ast.Pass,
              ast.Raise, ast.Try, ast.Expr, ast.FunctionDef, ast.ClassDef, ast.ImportFrom)
OUT = (ast.GeneratorExp, ast.SetComp, ast.DictComp, ast.NamedExpr, ast.Starred, ast.Div, ast.Await, ast.Yield,
       ast.Set, ast.AnnAssign, ast.MatMult, ast.YieldFrom)
NOT_NAMED = set("register mro elements open input version_info with_traceback add_note format format_map".split())
NOT_WRITTEN = re.compile(r"\b(type|typing|typing_extensions|enum|Enum|IntEnum|StrEnum|Flag|IntFlag|Generic|Protocol|ABC"
                         r"|ABCMeta|namedtuple|NamedTuple|TypedDict|TYPE_CHECKING|abstractmethod)\b"
                         r"|dataclass|overload|contextmanager")
WALKED = ("zip", "enumerate", "reversed", "range")
WALKERS = ("list", "tuple", "dict", "sorted", "sum", "any", "all", "enumerate", "zip", "min", "max")


def trees():
    return [(path, ast.parse(path.read_text(encoding="ascii"))) for path in FILES]


def nodes(kinds):
    return [(path, node) for path, tree in trees() for node in ast.walk(tree) if isinstance(node, kinds)]


def own_names(kinds):
    return {node.name for path, node in nodes(kinds)}


def bound_in(function):
    names = [argument.arg for argument in function.args.args]
    return names + [node.id for node in ast.walk(function) if isinstance(node, ast.Name) and isinstance(node.ctx, ast.Store)]


class Language(unittest.TestCase):
    def test_files(self):
        self.assertIn(FOLDER / "__init__.py", FILES)
        for path in FILES:
            self.assertRegex(path.name, r"^([a-z][a-z0-9_]*|__init__|__main__)\.py$")
            text = path.read_text(encoding="ascii")
            self.assertRegex(text, r"\A[\n -~]*\Z")
            self.assertLessEqual(len(text.splitlines()), 400)
            self.assertLessEqual(max(len(line) for line in text.splitlines()), 120)
            self.assertIsNone(NOT_WRITTEN.search(text), path)

    def test_imports(self):
        drawn = {}
        for path, node in nodes((ast.Import, ast.ImportFrom)):
            self.assertIsInstance(node, ast.ImportFrom)
            package, name = node.module.split(".")
            self.assertEqual((package, node.level), ("toldgraph", 0))
            drawn.setdefault(path.stem, set()).add(name)
            top = ast.parse((FOLDER / f"{name}.py").read_text()).body
            there = {part.name for part in top if isinstance(part, (ast.FunctionDef, ast.ClassDef))}
            there |= {part.targets[0].id for part in top if isinstance(part, ast.Assign)}
            self.assertLessEqual({alias.name for alias in node.names}, there)
        left = {path.stem for path in FILES}
        while left:
            free = {name for name in left if not drawn.get(name, set()) & left}
            self.assertTrue(free, f"files that draw from one another: {left}")
            left -= free

    def test_tops(self):
        for path, tree in trees():
            bound = []
            self.assertIsNotNone(ast.get_docstring(tree))
            for part in tree.body[1:]:
                self.assertIsInstance(part, (ast.ImportFrom, ast.FunctionDef, ast.ClassDef, ast.Assign))
                if isinstance(part, ast.Assign):
                    self.plain(part.value, bound)
                    bound += [target.id for target in part.targets]
                elif isinstance(part, ast.ImportFrom):
                    bound += [alias.name for alias in part.names]
                else:
                    bound.append(part.name)
            self.assertEqual(len(bound), len(set(bound)), path)

    def plain(self, value, above):
        if isinstance(value, ast.Dict):
            parts = value.keys + value.values
        elif isinstance(value, (ast.List, ast.Tuple)):
            parts = value.elts
        else:
            parts = []
            functions = own_names(ast.FunctionDef)
            plain = isinstance(value, (ast.Constant, ast.UnaryOp))
            self.assertTrue(plain or (value.id in functions and value.id in above), ast.dump(value))
        for part in parts:
            self.assertNotIsInstance(part, (ast.Dict, ast.List))
            self.plain(part, above)

    def test_functions_and_classes(self):
        for path, node in nodes(ast.FunctionDef):
            where = f"{path.name} {node.name}"
            self.assertLessEqual(node.end_lineno - node.lineno + 1, 40, where)
            self.assertFalse(node.decorator_list or node.args.vararg or node.args.kwarg or node.args.kwonlyargs, where)
            self.assertIsNone(ast.get_docstring(node), where)
            for name in bound_in(node):
                self.assertFalse(name.startswith("_") or hasattr(builtins, name), f"{where}: {name}")
        for path, tree in trees():
            imported = {a.name for part in tree.body if isinstance(part, ast.ImportFrom) for a in part.names}
            taken = imported | {part.name for part in tree.body if isinstance(part, ast.ClassDef)}
            for node in [node for node in ast.walk(tree) if isinstance(node, ast.FunctionDef)]:
                self.assertFalse(taken & set(bound_in(node)), f"{path.name} {node.name}")
        for path, node in nodes(ast.ClassDef):
            self.assertTrue(len(node.bases) <= 1 and not node.decorator_list and not node.keywords)
            self.assertTrue(all(isinstance(part, ast.FunctionDef) for part in node.body), node.name)

    def test_statements_and_expressions(self):
        for path, node in nodes(ast.AST):
            where = f"{path.name}:{getattr(node, 'lineno', '?')}"
            self.assertNotIsInstance(node, OUT, where)
            if isinstance(node, ast.stmt):
                self.assertIsInstance(node, STATEMENTS, where)
            if isinstance(node, ast.Assign):
                self.assertEqual(len(node.targets), 1, where)
                self.assertNotIsInstance(node.targets[0], (ast.Tuple, ast.List), where)
            if isinstance(node, (ast.For, ast.While)):
                self.assertFalse(node.orelse, where)
            if isinstance(node, ast.Try):
                self.assertFalse(node.finalbody, where)
                self.assertTrue(all(isinstance(handler.type, ast.Name) for handler in node.handlers), where)
            if isinstance(node, ast.ListComp):
                self.assertTrue(len(node.generators) == 1 and len(node.generators[0].ifs) <= 1, where)
            if isinstance(node, ast.Compare) and any(isinstance(op, (ast.Is, ast.IsNot)) for op in node.ops):
                self.assertTrue(all(isinstance(side, ast.Constant) for side in node.comparators), where)
            if isinstance(node, ast.Constant):
                self.assertNotIsInstance(node.value, (float, bytes, complex), where)
                self.assertFalse(isinstance(node.value, str) and chr(37) in node.value, where)

    def test_names(self):
        classes = own_names(ast.ClassDef)
        methods = {part.name for path, node in nodes(ast.ClassDef) for part in node.body} - {"__init__"}
        values = {node.attr for path, node in nodes(ast.Attribute) if isinstance(node.ctx, ast.Store)}
        self.assertFalse(methods & values)
        for path, node in nodes((ast.Name, ast.Attribute, ast.Call)):
            where = f"{path.name}:{node.lineno}"
            if isinstance(node, ast.Name) and hasattr(builtins, node.id):
                self.assertIn(node.id, BUILT_IN, where)
            if isinstance(node, ast.Attribute):
                self.assertNotIn(node.attr, NOT_NAMED, where)
                known = methods | values | METHODS
                self.assertTrue(node.attr in known or (node.attr == "__init__" and node.value.id in classes), where)
        for word in methods | values:
            self.assertFalse(any(hasattr(kind, word) for kind in (str, int, list, dict, set, bytes)), word)

    def test_walked_at_once(self):
        for path, tree in trees():
            fine = set()
            for node in ast.walk(tree):
                if isinstance(node, (ast.For, ast.comprehension)):
                    fine.add(node.iter)
                if isinstance(node, ast.Call) and isinstance(node.func, ast.Name) and node.func.id in WALKERS:
                    fine.update(node.args)
            for node in ast.walk(tree):
                if isinstance(node, ast.Call) and isinstance(node.func, ast.Name) and node.func.id in WALKED:
                    self.assertIn(node, fine, f"{path.name}:{node.lineno}")


if __name__ == "__main__":
    unittest.main()
