"""The package keeps to the small part of Python that is allowed (the rules that can be seen in its files)."""

import ast
import builtins
import os
import re
import unittest

PACKAGE = os.path.join(os.path.dirname(os.path.dirname(os.path.abspath(__file__))), "macroplays")

STATEMENTS = (ast.FunctionDef, ast.ClassDef, ast.ImportFrom, ast.Assign, ast.AugAssign, ast.If, ast.While, ast.For,
              ast.Return, ast.Break, ast.Continue, ast.Pass, ast.Raise, ast.Try, ast.Expr)
EXPRESSIONS = (ast.Constant, ast.Name, ast.Attribute, ast.Subscript, ast.Slice, ast.Call, ast.List, ast.Tuple,
               ast.Dict, ast.BinOp, ast.UnaryOp, ast.BoolOp, ast.Compare, ast.IfExp, ast.ListComp, ast.JoinedStr,
               ast.FormattedValue, ast.Lambda)
OWN_NAMES = set("""len range enumerate zip min max sum abs sorted reversed int str bool list tuple dict set frozenset
    isinstance ord repr any all divmod Exception ValueError TypeError KeyError IndexError LookupError
    ZeroDivisionError ArithmeticError OverflowError RuntimeError NotImplementedError AttributeError
    StopIteration""".split())
OWN_METHODS = set("""append clear copy count endswith extend find get index insert isalnum isalpha isdigit islower
    isspace isupper items join keys ljust lower lstrip partition pop remove replace reverse rfind rjust rpartition
    rsplit rstrip setdefault split splitlines startswith strip update upper values zfill bit_length""".split())
NEVER_NAMES = set("""register mro elements open input version_info with_traceback add_note attrgetter breakpoint
    builtins compile copyright credits delattr dir eval exec exit gc getattr globals hasattr help id importlib license
    locals methodcaller os quit setattr super type vars sys""".split())
NEVER_WORDS = re.compile(r"\b(type|typing|typing_extensions|enum|Enum|IntEnum|StrEnum|Flag|IntFlag|Generic|Protocol|"
                         r"ABC|ABCMeta|namedtuple|NamedTuple|TypedDict|TYPE_CHECKING|abstractmethod)\b|"
                         r"dataclass|overload|contextmanager")
SPECIAL_METHODS = {"__init__", "__eq__", "__repr__", "__str__", "__len__"}
TAKEN = set(dir(str) + dir(int) + dir(list) + dir(dict) + dir(set) + dir(bytes) + dir(tuple))


def sources():
    found = {}
    for name in sorted(os.listdir(PACKAGE)):
        if name != "__pycache__":
            with open(os.path.join(PACKAGE, name), encoding="utf-8") as file:
                found[name] = file.read()
    return found


def nodes(tree, *kinds):
    return [node for node in ast.walk(tree) if isinstance(node, kinds)]


def names_at_top(tree):
    names = [node.name for node in tree.body if isinstance(node, (ast.FunctionDef, ast.ClassDef))]
    return names + [node.targets[0].id for node in tree.body if isinstance(node, ast.Assign)]


def parameters(function):
    return [argument.arg for argument in function.args.args]


def each_file(check):
    def test(self):
        for name, tree in self.trees.items():
            with self.subTest(file=name):
                check(self, name, tree)
    return test


class Language(unittest.TestCase):
    def setUp(self):
        self.sources = sources()
        self.trees = {name: ast.parse(source) for name, source in self.sources.items()}

    def test_files(self):
        self.assertIn("__init__.py", self.sources)
        for name in self.sources:
            self.assertRegex(name, r"^(__init__|[a-z][a-z0-9_]*)\.py$")
            self.assertNotIn(name[:-3], vars(builtins))
            self.assertFalse(name.startswith("test") or name in ("site.py", "conftest.py"), name)

    @each_file
    def test_signs_and_sizes(self, name, tree):
        lines = self.sources[name].split("\n")
        self.assertLessEqual(len(lines), 399)
        self.assertLessEqual(max(len(line) for line in lines), 120)
        self.assertRegex(self.sources[name], r"\A[\n -~]*\Z")
        self.assertIsNone(NEVER_WORDS.search(self.sources[name]))
        for function in nodes(tree, ast.FunctionDef):
            self.assertLessEqual(function.end_lineno - function.lineno + 1, 40, function.name)

    @each_file
    def test_statements(self, name, tree):
        for node in nodes(tree, ast.stmt):
            self.assertIsInstance(node, STATEMENTS, node.lineno)
        for node in nodes(tree, ast.Assign):
            self.assertEqual(len(node.targets), 1, node.lineno)
            self.assertIsInstance(node.targets[0], (ast.Name, ast.Attribute, ast.Subscript), node.lineno)
        for node in nodes(tree, ast.While, ast.For):
            self.assertEqual(node.orelse, [], node.lineno)
        for node in nodes(tree, ast.Try):
            self.assertEqual(node.finalbody, [], node.lineno)
        for node in nodes(tree, ast.Expr):
            docstring = isinstance(node.value, ast.Constant) and isinstance(node.value.value, str)
            self.assertTrue(docstring or isinstance(node.value, ast.Call), node.lineno)

    @each_file
    def test_expressions(self, name, tree):
        for node in nodes(tree, ast.expr):
            self.assertIsInstance(node, EXPRESSIONS, node.lineno)
        for node in nodes(tree, ast.Constant):
            self.assertIn(type(node.value), (int, str, bool, type(None)), node.lineno)
        self.assertEqual(nodes(tree, ast.Div, ast.MatMult, ast.Pow, ast.Starred), [])
        for node in nodes(tree, ast.Compare):
            if nodes(node, ast.Is, ast.IsNot):
                self.assertIn(node.comparators[0].value, (None, True, False), node.lineno)

    @each_file
    def test_the_top_of_a_module(self, name, tree):
        self.assertIsNotNone(ast.get_docstring(tree))
        for node in tree.body[1:]:
            self.assertIsInstance(node, (ast.ImportFrom, ast.FunctionDef, ast.ClassDef, ast.Assign), node.lineno)
        names = names_at_top(tree)
        self.assertEqual(len(names), len(set(names)))

    @each_file
    def test_functions_and_classes(self, name, tree):
        for node in nodes(tree, ast.FunctionDef):
            told = node.args
            self.assertEqual([told.vararg, told.kwarg, told.kwonlyargs, told.posonlyargs], [None, None, [], []])
            self.assertEqual(node.decorator_list, [])
            self.assertIsNone(node.returns)
        for node in nodes(tree, ast.ClassDef):
            self.assertIn(node, tree.body)
            self.assertLessEqual(len(node.bases), 1)
            self.assertEqual(node.decorator_list + node.keywords, [])
            self.assertIsNotNone(ast.get_docstring(node))
            for method in node.body[1:]:
                self.assertIsInstance(method, ast.FunctionDef)
                self.assertTrue(not method.name.startswith("_") or method.name in SPECIAL_METHODS, method.name)

    @each_file
    def test_names(self, name, tree):
        bound = [node.id for node in nodes(tree, ast.Name) if isinstance(node.ctx, ast.Store)]
        bound += [handler.name for handler in nodes(tree, ast.ExceptHandler) if handler.name]
        for function in nodes(tree, ast.FunctionDef):
            bound += parameters(function)
        drawn = [alias.name for node in nodes(tree, ast.ImportFrom) for alias in node.names]
        drawn += [node.name for node in nodes(tree, ast.ClassDef)]
        for word in bound:
            self.assertRegex(word, r"^[A-Za-z][A-Za-z0-9_]*$")
            self.assertFalse(hasattr(builtins, word), word)
            self.assertNotIn(word, drawn)
        for node in nodes(tree, ast.Name):
            self.assertNotIn(node.id, NEVER_NAMES, node.lineno)
            if hasattr(builtins, node.id):
                self.assertIn(node.id, OWN_NAMES, node.lineno)
        for function in nodes(tree, ast.FunctionDef):
            self.assertNotIn(function.name, NEVER_NAMES)

    @each_file
    def test_what_the_top_keeps_is_only_read(self, name, tree):
        kept = [node.targets[0].id for node in tree.body
                if isinstance(node, ast.Assign) and isinstance(node.value, (ast.List, ast.Tuple, ast.Dict))]
        read = [node.value for node in nodes(tree, ast.Subscript) if isinstance(node.ctx, ast.Load)]
        read += [node for compare in nodes(tree, ast.Compare) for node in compare.comparators]
        for node in nodes(tree, ast.Name):
            if node.id in kept and isinstance(node.ctx, ast.Load):
                self.assertIn(node, read, node.lineno)

    @each_file
    def test_errors(self, name, tree):
        for handler in nodes(tree, ast.ExceptHandler):
            self.assertIsInstance(handler.type, ast.Name, handler.lineno)
            self.assertIn(handler.type.id, names_at_top(self.trees["refusals.py"]) + ["KeyError"], handler.lineno)
        for node in nodes(tree, ast.Raise):
            self.assertIsInstance(node.exc, ast.Call, node.lineno)

    def test_attributes(self):
        methods, values = set(), set()
        for tree in self.trees.values():
            for node in nodes(tree, ast.ClassDef):
                methods.update(method.name for method in nodes(node, ast.FunctionDef))
            values.update(node.attr for node in nodes(tree, ast.Attribute) if isinstance(node.ctx, ast.Store))
        self.assertEqual(methods & values, set())
        self.assertEqual((methods - SPECIAL_METHODS) & TAKEN, set())
        self.assertEqual(values & TAKEN, set())
        for name, tree in self.trees.items():
            called = [node.func for node in nodes(tree, ast.Call)]
            for node in nodes(tree, ast.Attribute):
                self.assertNotIn(node.attr, NEVER_NAMES, node.lineno)
                if node in called:
                    self.assertIn(node.attr, methods | OWN_METHODS, node.lineno)
                else:
                    self.assertIn(node.attr, values, node.lineno)

    def test_imports(self):
        draws = {}
        for name, tree in self.trees.items():
            draws[name] = []
            for node in nodes(tree, ast.ImportFrom):
                self.assertIn(node, tree.body)
                self.assertEqual(node.level, 0)
                self.assertRegex(node.module, r"^macroplays\.[a-z]+$")
                source = node.module.split(".")[1] + ".py"
                draws[name].append(source)
                for alias in node.names:
                    self.assertIn(alias.name, names_at_top(self.trees[source]))
                    self.assertIsNone(alias.asname)
        settled = set()
        while len(settled) < len(draws):
            free = [name for name in draws if name not in settled and set(draws[name]) <= settled]
            self.assertTrue(free, "files draw from one another in a round")
            settled.update(free)

    def test_the_interface_is_where_it_is_told(self):
        having = [name for name, tree in self.trees.items() if "answers" in names_at_top(tree)]
        self.assertEqual(having, ["editor.py"])
        function = [node for node in self.trees["editor.py"].body if getattr(node, "name", None) == "answers"][0]
        self.assertEqual((parameters(function), function.args.defaults), (["calls"], []))


if __name__ == "__main__":
    unittest.main()
