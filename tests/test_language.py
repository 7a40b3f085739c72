"""The package's files keep to the small part of Python that they are to be written in.

What is looked at here are the rules that a walk over the syntax can see without guessing.
"""

import ast
import builtins
import pathlib
import re
import unittest

PACKAGE = pathlib.Path(__file__).resolve().parent.parent / "hushgates"
FILES = sorted(PACKAGE.glob("*.py"))

STATEMENTS = (
    ast.Assign, ast.AugAssign, ast.If, ast.While, ast.For, ast.Return, ast.Break, ast.Continue, ast.Pass, ast.Raise,
    ast.Try, ast.Expr, ast.FunctionDef, ast.ClassDef, ast.ImportFrom,
)
OUT = (
    ast.With, ast.Starred, ast.NamedExpr, ast.GeneratorExp, ast.SetComp, ast.DictComp, ast.Yield, ast.YieldFrom,
    ast.Await, ast.Delete, ast.Global, ast.Nonlocal, ast.Assert, ast.Div, ast.MatMult, ast.Set,
)
OWN_NAMES = set(
    "len range enumerate zip min max sum abs sorted reversed int str bool list tuple dict set frozenset isinstance "
    "ord repr any all divmod Exception ValueError TypeError KeyError IndexError LookupError ZeroDivisionError "
    "ArithmeticError OverflowError RuntimeError NotImplementedError AttributeError StopIteration".split()
)
METHODS = set(
    "append clear copy count endswith extend find get index insert isalnum isalpha isdigit islower isspace isupper "
    "items join keys ljust lower lstrip partition pop remove replace reverse rfind rjust rpartition rsplit rstrip "
    "setdefault split splitlines startswith strip update upper values zfill bit_length".split()
)
WORDS = re.compile(
    r"\b(type|typing|typing_extensions|enum|Enum|IntEnum|StrEnum|Flag|IntFlag|Generic|Protocol|ABC|ABCMeta"
    r"|namedtuple|NamedTuple|TypedDict|TYPE_CHECKING|abstractmethod)\b|dataclass|overload|contextmanager"
)
NEVER = set("register mro elements open input version_info with_traceback add_note format format_map".split())
TAKEN = set()
for kind in (str, int, list, dict, set, bytes, tuple):
    TAKEN |= {name for name in dir(kind) if not name.startswith("__")}


def trees():
    return [(path, ast.parse(path.read_text(encoding="utf-8"))) for path in FILES]


def nodes(kind):
    return [(path.name, node) for path, tree in trees() for node in ast.walk(tree) if isinstance(node, kind)]


def place(name, node):
    return f"{name}:{node.lineno}"


class FilesTest(unittest.TestCase):
    def test_only_plain_files(self):
        lying = [path.name for path in PACKAGE.iterdir() if path.name != "__pycache__"]
        self.assertIn("__init__.py", lying)
        for name in lying:
            self.assertRegex(name, r"\A([a-z][a-z0-9_]*|__init__)\.py\Z")
            self.assertNotIn(name[:-3], dir(builtins))

    def test_signs_and_sizes(self):
        for path in FILES:
            text = path.read_text(encoding="utf-8")
            self.assertTrue(all(sign == "\n" or " " <= sign <= "~" for sign in text), path)
            self.assertLessEqual(len(text.splitlines()), 400, path)
            self.assertTrue(all(len(line) <= 120 for line in text.splitlines()), path)
            self.assertIsNone(WORDS.search(text), path)

    def test_functions_are_small(self):
        for name, node in nodes(ast.FunctionDef):
            self.assertLessEqual(node.end_lineno - node.lineno + 1, 40, place(name, node))


class SyntaxTest(unittest.TestCase):
    def test_statements(self):
        for name, node in nodes(ast.stmt):
            self.assertIsInstance(node, STATEMENTS, place(name, node))
            if isinstance(node, ast.Assign):
                self.assertEqual(len(node.targets), 1, place(name, node))
            if isinstance(node, (ast.For, ast.While)):
                self.assertEqual(node.orelse, [], place(name, node))
            if isinstance(node, ast.Try):
                self.assertEqual(node.finalbody, [], place(name, node))

    def test_expressions(self):
        for name, node in nodes(OUT):
            self.fail(f"{name}: {ast.dump(node)[:60]}")
        for name, node in nodes(ast.Constant):
            self.assertNotIsInstance(node.value, (float, complex, bytes), place(name, node))
            if isinstance(node.value, str):
                self.assertNotIn("%", node.value, place(name, node))
        for name, node in nodes(ast.ListComp):
            self.assertEqual(len(node.generators), 1, place(name, node))
            self.assertLessEqual(len(node.generators[0].ifs), 1, place(name, node))

    def test_functions(self):
        for name, node in nodes(ast.FunctionDef):
            self.assertEqual(node.decorator_list, [], place(name, node))
            self.assertIsNone(node.args.vararg, place(name, node))
            self.assertIsNone(node.args.kwarg, place(name, node))
            self.assertEqual(node.args.kwonlyargs, [], place(name, node))

    def test_imports_are_the_packages_own_and_go_one_way(self):
        drawn = {}
        for path, tree in trees():
            drawn[f"hushgates.{path.stem}"] = [node for node in tree.body if isinstance(node, ast.ImportFrom)]
        for name, node in nodes(ast.ImportFrom):
            self.assertIn(node.module, drawn, place(name, node))
            self.assertEqual(node.level, 0, place(name, node))
        while drawn:
            free = [name for name in drawn if all(node.module not in drawn for node in drawn[name])]
            self.assertNotEqual(free, [], f"a ring among {sorted(drawn)}")
            for name in free:
                drawn.pop(name)


class NamesTest(unittest.TestCase):
    def test_names(self):
        bound = {}
        for path, tree in trees():
            names = {node.id for node in ast.walk(tree) if isinstance(node, ast.Name) and not
                     isinstance(node.ctx, ast.Load)}
            names |= {node.arg for node in ast.walk(tree) if isinstance(node, ast.arg)}
            names |= {node.name for node in ast.walk(tree) if isinstance(node, ast.FunctionDef)}
            bound[path.name] = names
        for name in bound:
            for word in bound[name] - {"__init__"}:
                self.assertRegex(word, r"\A[A-Za-z][A-Za-z0-9_]*\Z", name)
                self.assertNotIn(word, dir(builtins), name)
                self.assertNotIn(word, NEVER, name)

    def test_locals_are_not_called_like_imports_or_classes(self):
        for path, tree in trees():
            drawn = [node for node in tree.body if isinstance(node, ast.ImportFrom)]
            top = {part.asname or part.name for node in drawn for part in node.names}
            top |= {node.name for node in tree.body if isinstance(node, ast.ClassDef)}
            for node in ast.walk(tree):
                if isinstance(node, ast.arg):
                    self.assertNotIn(node.arg, top, place(path.name, node))
                if isinstance(node, ast.Name) and isinstance(node.ctx, ast.Store):
                    self.assertNotIn(node.id, top, place(path.name, node))

    def test_classes(self):
        own = {node.name for _, node in nodes(ast.ClassDef)}
        errors = OWN_NAMES - {"StopIteration", "AttributeError"}
        for name, node in nodes(ast.ClassDef):
            self.assertLessEqual(len(node.bases), 1, place(name, node))
            self.assertEqual((node.keywords, node.decorator_list), ([], []), place(name, node))
            for base in node.bases:
                self.assertIn(base.id, own | {error for error in errors if error[0].isupper()}, place(name, node))
            defined = [part.name for part in node.body if isinstance(part, ast.FunctionDef)]
            self.assertEqual(len(defined), len(set(defined)), place(name, node))
            for part in node.body:
                self.assertIsInstance(part, (ast.FunctionDef, ast.Expr), place(name, part))

    def test_python_s_own_names(self):
        for name, node in nodes(ast.Name):
            if node.id in dir(builtins):
                self.assertIn(node.id, OWN_NAMES, place(name, node))

    def test_attributes(self):
        values = {node.attr for _, node in nodes(ast.Attribute) if isinstance(node.ctx, ast.Store)}
        methods = set()
        for _, node in nodes(ast.ClassDef):
            methods |= {part.name for part in node.body if isinstance(part, ast.FunctionDef)} - {"__init__"}
        self.assertEqual(values & methods, set())
        self.assertEqual((values | methods) & (TAKEN | NEVER), set())
        for name, node in nodes(ast.Attribute):
            self.assertIn(node.attr, values | methods | METHODS | {"__init__"}, place(name, node))

    def test_is_stands_beside_none(self):
        for name, node in nodes(ast.Compare):
            for sign, other in zip(node.ops, node.comparators):
                if isinstance(sign, (ast.Is, ast.IsNot)):
                    self.assertIsInstance(other, ast.Constant, place(name, node))

    def test_top_of_files(self):
        for path, tree in trees():
            seen = []
            for node in tree.body:
                if isinstance(node, ast.Assign):
                    seen.append(node.targets[0].id)
                    self.check_plain(node.value, tree)
                elif isinstance(node, ast.Expr):
                    self.assertIsInstance(node.value, ast.Constant, place(path.name, node))
                elif isinstance(node, (ast.FunctionDef, ast.ClassDef)):
                    seen.append(node.name)
                else:
                    self.assertIsInstance(node, ast.ImportFrom, place(path.name, node))
                    seen += [part.asname or part.name for part in node.names]
            self.assertEqual(len(seen), len(set(seen)), path)

    def check_plain(self, node, tree):
        defined = [part.name for part in tree.body if isinstance(part, ast.FunctionDef) and part.lineno < node.lineno]
        for part in ast.walk(node):
            self.assertIsInstance(part, (ast.Constant, ast.Tuple, ast.List, ast.Dict, ast.Name, ast.Load))
            if isinstance(part, ast.Name):
                self.assertIn(part.id, defined)


if __name__ == "__main__":
    unittest.main()
