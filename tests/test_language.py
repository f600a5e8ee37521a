"""The package's files keep to the small part of Python that the project is written in."""

import ast
import builtins
import pathlib
import re
import unittest

PACKAGE = pathlib.Path(__file__).resolve().parent.parent / "evenblocksdesk"
FILES = sorted(path for path in PACKAGE.rglob("*") if path.is_file() and "__pycache__" not in path.parts)

OWN_NAMES = set("""len range enumerate zip min max sum abs sorted reversed int str bool list tuple dict set frozenset
    isinstance ord repr any all divmod Exception ValueError TypeError KeyError IndexError LookupError
    ZeroDivisionError ArithmeticError OverflowError RuntimeError NotImplementedError StopIteration""".split())

METHODS = set("""append clear copy count endswith extend find get index insert isalnum isalpha isdigit islower isspace
    isupper items join keys ljust lower lstrip partition pop remove replace reverse rfind rjust rpartition rsplit
    rstrip setdefault split splitlines startswith strip update upper values zfill bit_length""".split())

WORDS = re.compile(r"\b(type|typing|typing_extensions|enum|Enum|IntEnum|StrEnum|Flag|IntFlag|Generic|Protocol|ABC|ABCMeta"
                   r"|namedtuple|NamedTuple|TypedDict|TYPE_CHECKING|abstractmethod)\b|dataclass|overload|contextmanager")

UNUSED = (ast.With, ast.Delete, ast.Global, ast.Nonlocal, ast.Assert, ast.Yield, ast.YieldFrom, ast.Await, ast.AsyncFor,
          ast.AsyncFunctionDef, ast.AsyncWith, ast.Match, ast.Import, ast.SetComp, ast.DictComp, ast.GeneratorExp,
          ast.NamedExpr, ast.Starred, ast.Div, ast.MatMult)

TOP = (ast.ImportFrom, ast.FunctionDef, ast.ClassDef, ast.Assign)


def trees():
    return [(path, ast.parse(path.read_text(encoding="ascii"))) for path in FILES]


def nodes(kind):
    return [(path, node) for path, tree in trees() for node in ast.walk(tree) if isinstance(node, kind)]


class Language(unittest.TestCase):
    def test_files_and_signs(self):
        self.assertIn(PACKAGE / "__init__.py", FILES)
        for path in FILES:
            self.assertRegex(path.name, r"^[a-z_0-9]+\.py$")
            text = path.read_text(encoding="utf-8")
            self.assertRegex(text, r"\A[ -~\n]*\Z", path)
            self.assertIsNone(WORDS.search(text), path)
            self.assertLessEqual(len(text.splitlines()), 400, path)
            self.assertLessEqual(max(len(line) for line in text.splitlines()), 120, path)

    def test_functions_are_short_and_plain(self):
        for path, node in nodes(ast.FunctionDef):
            where = f"{path.name}:{node.name}"
            self.assertLessEqual(node.end_lineno - node.lineno + 1, 40, where)
            self.assertEqual(node.decorator_list, [], where)
            self.assertEqual((node.args.vararg, node.args.kwarg, node.args.kwonlyargs), (None, None, []), where)

    def test_the_top_of_a_file(self):
        for path, tree in trees():
            bound = []
            for place, node in enumerate(tree.body):
                if place == 0:
                    self.assertIsNotNone(ast.get_docstring(tree), path)
                    continue
                self.assertIsInstance(node, TOP, f"{path.name}:{node.lineno}")
                bound += [target.id for target in getattr(node, "targets", [])]
                bound += [name.name for name in getattr(node, "names", [])]
                bound += [node.name] if isinstance(node, (ast.FunctionDef, ast.ClassDef)) else []
            self.assertEqual(len(bound), len(set(bound)), path)

    def test_draws_only_on_itself(self):
        for path, node in nodes(ast.ImportFrom):
            self.assertEqual(node.level, 0, path)
            self.assertTrue(node.module.startswith("evenblocksdesk."), path)

    def test_nothing_that_is_left_out(self):
        for path, node in nodes(UNUSED):
            self.fail(f"{path.name}:{getattr(node, 'lineno', '?')}: {node}")
        for path, node in nodes((ast.For, ast.While)):
            self.assertEqual(node.orelse, [], f"{path.name}:{node.lineno}")
        for path, node in nodes(ast.Constant):
            self.assertNotIsInstance(node.value, (float, bytes, complex), f"{path.name}:{node.lineno}")

    def test_names(self):
        for path, tree in trees():
            walked = list(ast.walk(tree))
            bound = {node.id for node in walked if isinstance(node, ast.Name) and isinstance(node.ctx, ast.Store)}
            bound |= {node.arg for node in walked if isinstance(node, ast.arg)}
            bound |= {node.name for node in walked if isinstance(node, (ast.FunctionDef, ast.ClassDef, ast.alias))}
            for name in bound - {"__init__"}:
                self.assertRegex(name, r"^[A-Za-z][A-Za-z0-9_]*$", path)
                self.assertFalse(hasattr(builtins, name), f"{path.name}: {name}")
            used = {node.id for node in walked if isinstance(node, ast.Name) and isinstance(node.ctx, ast.Load)}
            self.assertLessEqual(used - bound, OWN_NAMES, path)

    def test_locals_are_not_called_like_imports_and_classes(self):
        for path, tree in trees():
            drawn = {alias.name for node in tree.body if isinstance(node, ast.ImportFrom) for alias in node.names}
            drawn |= {node.name for node in tree.body if isinstance(node, ast.ClassDef)}
            walked = list(ast.walk(tree))
            own = {node.id for node in walked if isinstance(node, ast.Name) and isinstance(node.ctx, ast.Store)}
            own |= {node.arg for node in walked if isinstance(node, ast.arg)}
            self.assertEqual(own & drawn, set(), path)

    def test_methods(self):
        for path, node in nodes(ast.Call):
            if isinstance(node.func, ast.Attribute):
                self.assertIn(node.func.attr, METHODS, f"{path.name}:{node.lineno}")


if __name__ == "__main__":
    unittest.main()
