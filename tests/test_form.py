"""The form that the package's own files keep to: the rules of ../shared/LANGUAGE.md that can be seen at a glance."""

import ast
import builtins
import pathlib
import re
import unittest

PACKAGE = pathlib.Path(__file__).resolve().parent.parent / "foldview"

OWN_NAMES = set("""len range enumerate zip min max sum abs sorted reversed int str bool list tuple dict set frozenset
isinstance ord repr any all divmod""".split())
METHODS = set("append clear copy count extend find get index insert items join keys pop remove reverse values".split())
BARRED_WORDS = re.compile(r"\b(type|typing|typing_extensions|enum|Enum|IntEnum|StrEnum|Flag|IntFlag|Generic|Protocol|ABC"
                          r"|ABCMeta|namedtuple|NamedTuple|TypedDict|TYPE_CHECKING|abstractmethod)\b"
                          r"|dataclass|overload|contextmanager")
PARTS = (ast.Module, ast.FunctionDef, ast.ClassDef, ast.ImportFrom, ast.alias, ast.arguments, ast.arg, ast.Assign,
         ast.AugAssign, ast.If, ast.While, ast.For, ast.Return, ast.Break, ast.Continue, ast.Expr, ast.Call, ast.Attribute,
         ast.Subscript, ast.Slice, ast.Name, ast.Constant, ast.List, ast.Tuple, ast.Compare, ast.BoolOp, ast.BinOp,
         ast.UnaryOp, ast.IfExp, ast.ListComp, ast.comprehension, ast.keyword, ast.Load, ast.Store, ast.Add, ast.Sub,
         ast.Mult, ast.FloorDiv, ast.Mod, ast.And, ast.Or, ast.Not, ast.USub, ast.Eq, ast.NotEq, ast.Lt, ast.LtE, ast.Gt,
         ast.GtE, ast.In, ast.NotIn, ast.Is, ast.IsNot)


def files():
    return [path for path in sorted(PACKAGE.iterdir()) if path.name != "__pycache__"]


def sources_and_trees():
    sources = [path.read_text(encoding="utf-8") for path in files()]
    return [(source, ast.parse(source)) for source in sources]


def bound_names(tree):
    names = {node.name for node in ast.walk(tree) if isinstance(node, (ast.FunctionDef, ast.ClassDef))}
    names |= {node.arg for node in ast.walk(tree) if isinstance(node, ast.arg)}
    names |= {node.name for node in ast.walk(tree) if isinstance(node, ast.alias)}
    names |= {node.id for node in ast.walk(tree) if isinstance(node, ast.Name) and isinstance(node.ctx, ast.Store)}
    return names


class Form(unittest.TestCase):
    def test_the_files(self):
        self.assertEqual([path.name for path in files() if not re.fullmatch(r"[a-z_][a-z0-9_]*\.py", path.name)], [])
        self.assertIn("__init__.py", [path.name for path in files()])

    def test_signs_sizes_and_words(self):
        for source, tree in sources_and_trees():
            self.assertRegex(source, r"\A[\n -~]*\Z")
            self.assertLessEqual(source.count("\n"), 399)
            self.assertLessEqual(max(len(row) for row in source.split("\n")), 120)
            self.assertIsNone(BARRED_WORDS.search(source))
            for node in ast.walk(tree):
                if isinstance(node, ast.FunctionDef):
                    self.assertLessEqual(node.end_lineno - node.lineno + 1, 40, node.name)

    def test_the_parts_of_the_language(self):
        for source, tree in sources_and_trees():
            for node in ast.walk(tree):
                self.assertIsInstance(node, PARTS)
                if isinstance(node, (ast.While, ast.For)):
                    self.assertEqual(node.orelse, [])
                if isinstance(node, ast.Assign):
                    self.assertEqual(len(node.targets), 1)
                if isinstance(node, ast.Constant):
                    self.assertIn(type(node.value), (int, str, bool, type(None)))
                if isinstance(node, ast.FunctionDef):
                    self.assertEqual(node.decorator_list + node.args.defaults, [])
                    self.assertEqual((node.args.vararg, node.args.kwarg, node.args.kwonlyargs), (None, None, []))
                if isinstance(node, ast.Compare) and isinstance(node.ops[0], (ast.Is, ast.IsNot)):
                    self.assertIsInstance(node.comparators[0], ast.Constant)

    def test_names(self):
        for source, tree in sources_and_trees():
            bound = bound_names(tree)
            used = {node.id for node in ast.walk(tree) if isinstance(node, ast.Name)}
            self.assertEqual(sorted(used - bound - OWN_NAMES), [])
            self.assertEqual(sorted(bound & set(dir(builtins))), [])
            self.assertEqual([name for name in bound - {"__init__"} if name.startswith("_")], [])

    def test_methods(self):
        for source, tree in sources_and_trees():
            for node in ast.walk(tree):
                if isinstance(node, ast.Call) and isinstance(node.func, ast.Attribute):
                    self.assertIn(node.func.attr, METHODS)

    def test_imports_are_of_the_package_alone(self):
        for source, tree in sources_and_trees():
            for node in ast.walk(tree):
                if isinstance(node, ast.ImportFrom):
                    self.assertEqual(node.level, 0)
                    self.assertRegex(node.module, r"\Afoldview\.[a-z]+\Z")
                    defined = ast.parse((PACKAGE / (node.module.split(".")[1] + ".py")).read_text(encoding="utf-8"))
                    for alias in node.names:
                        self.assertIn(alias.name, [part.name for part in defined.body
                                                   if isinstance(part, (ast.FunctionDef, ast.ClassDef))])

    def test_the_interface_stands_in_its_file(self):
        tree = ast.parse((PACKAGE / "view.py").read_text(encoding="utf-8"))
        self.assertIn("answers", [node.name for node in tree.body if isinstance(node, ast.FunctionDef)])


if __name__ == "__main__":
    unittest.main()
