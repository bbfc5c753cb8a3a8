"""The package keeps to the part of Python that it is to be written in, as far as a look at its syntax can tell."""

import ast
import builtins
import pathlib
import re
import unittest

PACKAGE = pathlib.Path(__file__).resolve().parent.parent / "hallends"
ERRORS = ("Exception ValueError TypeError KeyError IndexError LookupError ZeroDivisionError ArithmeticError "
          "OverflowError RuntimeError NotImplementedError AttributeError StopIteration").split()
NAMES = ERRORS + ("len range enumerate zip min max sum abs sorted reversed int str bool list tuple dict set "
                  "isinstance ord repr any all divmod").split()
METHODS = ("append clear copy count endswith extend find get index insert isalnum isalpha isdigit islower isspace "
           "isupper items join keys ljust lower lstrip partition pop remove replace reverse rfind rjust rpartition "
           "rsplit rstrip setdefault split splitlines startswith strip update upper values zfill bit_length "
           "__init__").split()
STATEMENTS = (ast.Assign, ast.AugAssign, ast.If, ast.While, ast.For, ast.Return, ast.Break, ast.Continue, ast.Pass,
              ast.Raise, ast.Try, ast.Expr, ast.FunctionDef, ast.ClassDef, ast.ImportFrom)
EXPRESSIONS = (ast.Constant, ast.List, ast.Tuple, ast.Dict, ast.BinOp, ast.UnaryOp, ast.Compare, ast.BoolOp,
               ast.IfExp, ast.Call, ast.Attribute, ast.Subscript, ast.Slice, ast.ListComp, ast.JoinedStr,
               ast.FormattedValue, ast.Name, ast.Lambda)
NEVER_NAMES = ("register mro elements open input attrgetter breakpoint compile copyright credits delattr dir eval "
               "exec exit gc getattr globals hasattr help id importlib license locals methodcaller os quit setattr "
               "super type vars sys format format_map args encode").split()
NEVER_WORDS = ("type typing typing_extensions enum Enum IntEnum StrEnum Flag IntFlag Generic Protocol ABC ABCMeta "
               "namedtuple NamedTuple TypedDict TYPE_CHECKING abstractmethod").split()
LAZY = ("zip", "enumerate", "reversed", "range")


def nodes(tree, *kinds):
    return [node for node in ast.walk(tree) if isinstance(node, kinds)]


class LanguageTest(unittest.TestCase):
    def setUp(self):
        self.sources = {path: path.read_text() for path in sorted(PACKAGE.glob("*.py"))}
        self.trees = {path: ast.parse(source) for path, source in self.sources.items()}
        self.classes = [node for tree in self.trees.values() for node in nodes(tree, ast.ClassDef)]
        self.methods = {each.name for node in self.classes for each in nodes(node, ast.FunctionDef)}

    def each(self):
        for path, tree in self.trees.items():
            with self.subTest(file=path.name):
                yield tree

    def test_files(self):
        others = [path.name for path in PACKAGE.iterdir() if path.name != "__pycache__" and path not in self.sources]
        self.assertEqual(others, [])
        self.assertIn(PACKAGE / "__init__.py", self.sources)
        for path, source in self.sources.items():
            self.assertRegex(path.name, r"^([a-z][a-z0-9_]*|__init__|__main__)\.py$")
            self.assertEqual(set(re.findall(r"[^ -~\n]", source)), set())
            self.assertLessEqual(source.count("\n"), 400)
            self.assertLessEqual(max(len(line) for line in source.split("\n")), 120)
            self.assertEqual([word for word in NEVER_WORDS if re.search(rf"\b{word}\b", source)], [])
            self.assertEqual(re.findall("dataclass|overload|contextmanager", source), [])

    def test_statements_and_expressions(self):
        for tree in self.each():
            self.assertEqual([node for node in nodes(tree, ast.stmt) if not isinstance(node, STATEMENTS)], [])
            self.assertEqual([node for node in nodes(tree, ast.expr) if not isinstance(node, EXPRESSIONS)], [])
            self.assertEqual([node.lineno for node in nodes(tree, ast.Assign) if len(node.targets) > 1], [])
            self.assertEqual([node.lineno for node in nodes(tree, ast.For, ast.While) if node.orelse], [])
            self.assertEqual([node.lineno for node in nodes(tree, ast.Try) if node.finalbody], [])
            self.assertEqual(nodes(tree, ast.Div, ast.MatMult), [])
            for node in nodes(tree, ast.ListComp):
                self.assertEqual(len(node.generators), 1)
                self.assertLessEqual(len(node.generators[0].ifs), 1)
            for node in nodes(tree, ast.Compare):
                for operator, side in zip(node.ops, node.comparators):
                    if isinstance(operator, (ast.Is, ast.IsNot)):
                        self.assertIn(getattr(side, "value", "?"), (None, True, False))
            for node in nodes(tree, ast.Constant):
                self.assertIsInstance(node.value, (int, str, bool, type(None)))
                self.assertNotIn("%", str(node.value))

    def test_functions_and_classes(self):
        for tree in self.each():
            for node in nodes(tree, ast.FunctionDef):
                self.assertLessEqual(node.end_lineno - node.lineno + 1, 40, node.name)
                self.assertEqual(node.decorator_list, [])
                wanted = node.args
                self.assertEqual((wanted.vararg, wanted.kwarg, wanted.kwonlyargs, wanted.posonlyargs),
                                 (None, None, [], []))
                self.assertEqual([a.arg for a in wanted.args if a.annotation] + [node.returns], [None])
            for node in nodes(tree, ast.ClassDef):
                self.assertIn(node, tree.body)
                self.assertLessEqual(len(node.bases), 1)
                self.assertEqual(node.decorator_list + node.keywords, [])
                kinds = [each for each in node.body[1:] if not isinstance(each, ast.FunctionDef)]
                self.assertEqual(kinds, [])

    def test_imports(self):
        for tree in self.each():
            for node in nodes(tree, ast.ImportFrom):
                self.assertIn(node, tree.body)
                self.assertEqual(node.level, 0)
                source = PACKAGE.parent / (node.module.replace(".", "/") + ".py")
                self.assertIn(source, self.trees)
                bound = [each.name for each in self.trees[source].body if hasattr(each, "name")]
                bound += [t.id for each in self.trees[source].body if isinstance(each, ast.Assign)
                          for t in each.targets]
                self.assertEqual([a.name for a in node.names if a.name not in bound or a.asname], [])

    def test_no_two_files_draw_from_one_another(self):
        draws = {"hallends." + path.stem: [node.module for node in nodes(tree, ast.ImportFrom)]
                 for path, tree in self.trees.items()}
        while draws:
            free = [name for name in draws if not set(draws[name]) & set(draws)]
            self.assertNotEqual(free, [], draws)
            for name in free:
                draws.pop(name)

    def test_names(self):
        for tree in self.each():
            top = [each.name for each in tree.body if hasattr(each, "name")]
            top += [alias.name for node in nodes(tree, ast.ImportFrom) for alias in node.names]
            bound = [node.id for node in nodes(tree, ast.Name) if isinstance(node.ctx, ast.Store)]
            bound += [node.arg for node in nodes(tree, ast.arg)]
            self.assertEqual([name for name in bound if hasattr(builtins, name) or name in top], [])
            used = [node.id for node in nodes(tree, ast.Name)]
            self.assertEqual([name for name in used if hasattr(builtins, name) and name not in NAMES], [])
            every = bound + used + top + [node.attr for node in nodes(tree, ast.Attribute)]
            self.assertEqual([name for name in every if name in NEVER_NAMES], [])
            self.assertEqual([name for name in every if not re.fullmatch("[A-Za-z][A-Za-z0-9_]*|__init__", name)], [])

    def test_methods_and_values(self):
        values = set()
        for tree in self.each():
            for node in nodes(tree, ast.Attribute):
                if isinstance(node.ctx, ast.Store):
                    values.add(node.attr)
            for node in nodes(tree, ast.Call):
                if isinstance(node.func, ast.Attribute):
                    self.assertIn(node.func.attr, self.methods | set(METHODS))
                if isinstance(node.func, ast.Name) and node.func.id == "set":
                    self.fail("a set")
        self.assertEqual(values & self.methods, set())
        python_has = {name for value in ("", 0, [], {}, (), b"") for name in dir(value)}
        self.assertEqual((values | self.methods) & (python_has - {"__init__"}), set())

    def test_what_is_walked_at_once(self):
        for tree in self.each():
            walked = [node.iter for node in nodes(tree, ast.For, ast.comprehension)]
            lazy = [node for node in nodes(tree, ast.Call) if getattr(node.func, "id", "") in LAZY]
            self.assertEqual([ast.unparse(node) for node in lazy if node not in walked], [])

    def test_the_top_of_a_file(self):
        for tree in self.each():
            for node in tree.body[1:]:
                self.assertIsInstance(node, (ast.ImportFrom, ast.FunctionDef, ast.ClassDef, ast.Assign))
            self.assertIsNotNone(ast.get_docstring(tree))
            named = [t.id for node in tree.body if isinstance(node, ast.Assign) for t in node.targets]
            self.assertEqual(len(named), len(set(named)))
            # Tuples alone, which nobody can change.
            tops = [node.value for node in tree.body if isinstance(node, ast.Assign)]
            self.assertEqual([kind for node in tops for kind in nodes(node, ast.List, ast.Dict, ast.Call)], [])


if __name__ == "__main__":
    unittest.main()
