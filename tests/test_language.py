"""Those of the language's rules that a walk through the package's files can see."""

import ast
import os
import re
import unittest

HERE = os.path.dirname(os.path.abspath(__file__))
PACKAGE = os.path.join(os.path.dirname(HERE), "scriptsknown")

STATEMENTS = (ast.FunctionDef, ast.ClassDef, ast.Assign, ast.AugAssign, ast.If, ast.While, ast.For, ast.Return,
              ast.Break, ast.Continue, ast.Pass, ast.Raise, ast.Try, ast.Expr, ast.ImportFrom)
NOT_WRITTEN = (ast.Div, ast.MatMult, ast.SetComp, ast.DictComp, ast.GeneratorExp, ast.NamedExpr, ast.Starred,
               ast.Await, ast.Yield, ast.YieldFrom, ast.AnnAssign)
BUILT_IN = set("len range enumerate zip min max sum abs sorted reversed int str bool list tuple dict set frozenset "
               "isinstance ord repr any all divmod Exception ValueError TypeError KeyError IndexError LookupError "
               "ZeroDivisionError ArithmeticError OverflowError RuntimeError NotImplementedError StopIteration".split())
METHODS = set("append clear copy count endswith extend find get index insert isalnum isalpha isdigit islower isspace "
              "isupper items join keys ljust lower lstrip partition pop remove replace reverse rfind rjust rpartition "
              "rsplit rstrip setdefault split splitlines startswith strip update upper values zfill bit_length".split())
NOT_NAMES = set("register mro elements open input version_info attrgetter breakpoint builtins compile copyright credits "
                "delattr dir eval exec exit gc getattr globals hasattr help id importlib license locals methodcaller "
                "os quit setattr super vars sys hash next map iter format filter print object bytes float".split())
NOT_WORDS = re.compile(r"\b(type|typing|typing_extensions|enum|Enum|IntEnum|StrEnum|Flag|IntFlag|Generic|Protocol|ABC|"
                       r"ABCMeta|namedtuple|NamedTuple|TypedDict|TYPE_CHECKING|abstractmethod)\b|dataclass|overload|"
                       r"contextmanager")


def files():
    found = {}
    for name in sorted(os.listdir(PACKAGE)):
        if name != "__pycache__":
            with open(os.path.join(PACKAGE, name), encoding="utf-8", newline="") as file:
                found[name] = file.read()
    return found


def bound(tree):
    """Names that a file's top binds, and names that are bound anywhere in it."""
    top = [node.name for node in tree.body if isinstance(node, (ast.FunctionDef, ast.ClassDef))]
    top += [node.targets[0].id for node in tree.body if isinstance(node, ast.Assign)]
    top += [name.name for node in tree.body if isinstance(node, ast.ImportFrom) for name in node.names]
    inner = [node.id for node in ast.walk(tree) if isinstance(node, ast.Name) and isinstance(node.ctx, ast.Store)]
    inner += [node.arg for node in ast.walk(tree) if isinstance(node, ast.arg)]
    inner += [node.name for node in ast.walk(tree) if isinstance(node, ast.ExceptHandler) and node.name]
    return top, inner


class Language(unittest.TestCase):

    def setUp(self):
        self.files = files()
        self.trees = {name: ast.parse(text) for name, text in self.files.items()}

    def test_files_and_signs(self):
        self.assertIn("__init__.py", self.files)
        for name, text in self.files.items():
            self.assertRegex(name, r"^([a-z][a-z0-9_]*|__init__|__main__)\.py$")
            self.assertEqual([sign for sign in text if not (" " <= sign <= "~" or sign == "\n")], [], name)
            self.assertLessEqual(len(text.splitlines()), 399, name)
            self.assertLessEqual(max([len(row) for row in text.splitlines()]), 120, name)
            self.assertIsNone(NOT_WORDS.search(text), name)

    def test_statements_and_expressions(self):
        for name, tree in self.trees.items():
            for node in ast.walk(tree):
                where = (name, getattr(node, "lineno", 0))
                if isinstance(node, ast.stmt):
                    self.assertIsInstance(node, STATEMENTS, where)
                self.assertNotIsInstance(node, NOT_WRITTEN, where)
                if isinstance(node, (ast.For, ast.While)):
                    self.assertEqual(node.orelse, [], where)
                if isinstance(node, ast.Try):
                    self.assertEqual(node.finalbody, [], where)
                    self.assertTrue(all([isinstance(handler.type, ast.Name) for handler in node.handlers]), where)
                if isinstance(node, ast.Assign):
                    self.assertEqual(len(node.targets), 1, where)
                if isinstance(node, ast.ListComp):
                    self.assertEqual(len(node.generators), 1, where)
                    self.assertLessEqual(len(node.generators[0].ifs), 1, where)
                if isinstance(node, ast.FormattedValue):
                    self.assertIsInstance(node.value, ast.Name, where)
                if isinstance(node, ast.Constant):
                    self.assertIsInstance(node.value, (int, str, type(None)), where)
                    self.assertFalse(isinstance(node.value, str) and "%" in node.value, where)
                if isinstance(node, ast.Compare) and isinstance(node.ops[0], (ast.Is, ast.IsNot)):
                    self.assertIn(node.comparators[0].value, (None, True, False), where)

    def test_functions(self):
        for name, tree in self.trees.items():
            for node in ast.walk(tree):
                if isinstance(node, (ast.FunctionDef, ast.ClassDef)):
                    self.assertEqual(node.decorator_list, [], (name, node.name))
                if isinstance(node, ast.FunctionDef):
                    self.assertLessEqual(node.end_lineno - node.lineno + 1, 40, (name, node.name))
                    self.assertEqual((node.args.vararg, node.args.kwarg, node.args.kwonlyargs), (None, None, []))

    def test_imports(self):
        drawn = {}
        for name, tree in self.trees.items():
            drawn[name] = []
            for node in tree.body:
                if isinstance(node, ast.ImportFrom):
                    package, module = node.module.split(".")
                    self.assertEqual((package, node.level), ("scriptsknown", 0), name)
                    drawn[name].append(module + ".py")
                    for told in node.names:
                        own = [part.name for part in self.trees[module + ".py"].body
                               if isinstance(part, (ast.FunctionDef, ast.ClassDef))]
                        own += [part.targets[0].id for part in self.trees[module + ".py"].body
                                if isinstance(part, ast.Assign)]
                        self.assertIn(told.name, own, name)
                        self.assertIsNone(told.asname, name)
        while drawn:
            free = [name for name in drawn if not [other for other in drawn[name] if other in drawn]]
            self.assertTrue(free, drawn)
            drawn = {name: drawn[name] for name in drawn if name not in free}

    def test_names(self):
        for name, tree in self.trees.items():
            top, inner = bound(tree)
            self.assertEqual(len(top), len(set(top)), name)
            imports_and_classes = [part for part in top if part not in [
                node.targets[0].id for node in tree.body if isinstance(node, ast.Assign)]]
            functions = [node.name for node in tree.body if isinstance(node, ast.FunctionDef)]
            for word in inner:
                self.assertRegex(word, r"^[A-Za-z][A-Za-z0-9_]*$", name)
                self.assertNotIn(word, BUILT_IN | NOT_NAMES, name)
                self.assertNotIn(word, [part for part in imports_and_classes if part not in functions], name)
            for node in ast.walk(tree):
                if isinstance(node, ast.Name) and isinstance(node.ctx, ast.Load):
                    self.assertIn(node.id, set(top) | set(inner) | BUILT_IN, name)

    def test_methods_and_values(self):
        methods, values = {}, {}
        for name, tree in self.trees.items():
            for node in ast.walk(tree):
                if isinstance(node, ast.ClassDef):
                    for part in node.body:
                        if isinstance(part, ast.FunctionDef) and part.name != "__init__":
                            methods[part.name] = name
                if isinstance(node, ast.Attribute) and isinstance(node.ctx, ast.Store):
                    values[node.attr] = name
        self.assertEqual([word for word in methods if word in values], [])
        for name, tree in self.trees.items():
            for node in ast.walk(tree):
                if isinstance(node, ast.Attribute) and isinstance(node.ctx, ast.Load):
                    self.assertIn(node.attr, METHODS | set(methods) | set(values) | {"__init__"}, name)

    def test_the_interface(self):
        with_answers = [name for name, tree in self.trees.items() if "answers" in bound(tree)[0]]
        self.assertEqual(with_answers, ["scripts.py"])


if __name__ == "__main__":
    unittest.main()
