"""The package keeps to the part of Python that ../shared/LANGUAGE.md tells, as far as this can be seen by rule."""

import ast
import builtins
import pathlib
import re
import unittest

PACKAGE = pathlib.Path(__file__).resolve().parent.parent / "notchcards"
FILES = sorted(PACKAGE.glob("*.py"))

STATEMENTS = (ast.Assign, ast.AugAssign, ast.If, ast.While, ast.For, ast.Return, ast.Break, ast.Continue, ast.Pass,
              ast.Raise, ast.Try, ast.Expr, ast.FunctionDef, ast.ClassDef, ast.ImportFrom)
EXPRESSIONS = (ast.Constant, ast.Name, ast.Attribute, ast.Subscript, ast.Slice, ast.Call, ast.BinOp, ast.UnaryOp,
               ast.BoolOp, ast.Compare, ast.IfExp, ast.List, ast.Tuple, ast.Dict, ast.ListComp, ast.JoinedStr,
               ast.FormattedValue, ast.Lambda)
OWN_NAMES = ("len range enumerate zip min max sum abs sorted reversed int str bool list tuple dict set frozenset "
             "isinstance ord repr any all divmod Exception ValueError TypeError KeyError IndexError LookupError "
             "ZeroDivisionError ArithmeticError OverflowError RuntimeError NotImplementedError AttributeError "
             "StopIteration").split()
METHODS = ("append clear copy count endswith extend find get index insert isalnum isalpha isdigit islower isspace "
           "isupper items join keys ljust lower lstrip partition pop remove replace reverse rfind rjust rpartition "
           "rsplit rstrip setdefault split splitlines startswith strip update upper values zfill bit_length").split()
TAKEN = set().union(*(dir(kind) for kind in (str, int, list, dict, set, bytes)))
FREE_VALUES = set("count index title find get join lower upper split strip copy add".split())
NEVER = ("type|typing|typing_extensions|enum|Enum|IntEnum|StrEnum|Flag|IntFlag|Generic|Protocol|ABC|ABCMeta|"
         "namedtuple|NamedTuple|TypedDict|TYPE_CHECKING|abstractmethod")
NOT_USED = set("register mro elements open input version_info with_traceback add_note attrgetter breakpoint builtins "
               "compile copyright credits delattr dir eval exec exit gc getattr globals hasattr help id importlib "
               "license locals methodcaller os quit setattr super vars sys format format_map".split())


class Language(unittest.TestCase):
    def each_file(self):
        for path in FILES:
            text = path.read_text(encoding="utf-8")
            yield path, text, ast.parse(text)

    def nodes(self, *kinds):
        for path, text, tree in self.each_file():
            for node in ast.walk(tree):
                if isinstance(node, kinds):
                    yield f"{path.name}:{getattr(node, 'lineno', 0)}", node

    def test_l1_and_l14_files(self):
        self.assertIn("__init__.py", [path.name for path in FILES])
        for path in PACKAGE.iterdir():
            if path.name != "__pycache__":
                self.assertRegex(path.name, r"^(__init__|[a-z][a-z0-9_]*)\.py$")
                self.assertNotRegex(path.stem, rf"^(tests?|testing|test_.*|site|conftest|.*customize|{NEVER})$")
                self.assertNotIn(path.stem, dir(builtins))

    def test_l2_and_l16_imports(self):
        drawn = {}
        for path, text, tree in self.each_file():
            drawn[path.stem] = []
            for node in ast.walk(tree):
                self.assertNotIsInstance(node, ast.Import, path.name)
                if isinstance(node, ast.ImportFrom):
                    self.assertIn(node, tree.body, path.name)
                    self.assertRegex(node.module, r"^notchcards\.[a-z]+$")
                    other = ast.parse((PACKAGE / (node.module.split(".")[1] + ".py")).read_text())
                    for name in node.names:
                        self.assertIsNone(name.asname)
                        self.assertIn(name.name, tops(other), "imported from the file that defines it")
                    drawn[path.stem].append(node.module.split(".")[1])
        while drawn:
            ended = [name for name in drawn if not set(drawn[name]) & set(drawn)]
            self.assertTrue(ended, f"these draw from one another: {sorted(drawn)}")
            for name in ended:
                del drawn[name]

    def test_l3_the_top_of_a_module(self):
        for path, text, tree in self.each_file():
            self.assertIsNotNone(ast.get_docstring(tree), path.name)
            for node in tree.body[1:]:
                self.assertIsInstance(node, (ast.ImportFrom, ast.FunctionDef, ast.ClassDef, ast.Assign), path.name)
            self.assertEqual(len(tops(tree)), len(set(tops(tree))), f"{path.name}: each name once")

    def test_l4_functions(self):
        for where, node in self.nodes(ast.FunctionDef, ast.Lambda):
            told = node.args
            self.assertFalse(told.vararg or told.kwarg or told.kwonlyargs or told.posonlyargs, where)
            self.assertFalse(getattr(node, "decorator_list", []), where)
            self.assertTrue(all(isinstance(default, ast.Constant) for default in told.defaults), where)

    def test_l5_and_l18_classes(self):
        methods, kept = set(), set()
        for where, node in self.nodes(ast.ClassDef):
            self.assertFalse(node.decorator_list or node.keywords, where)
            self.assertLessEqual(len(node.bases), 1, where)
            names = [part.name for part in node.body[1:] if isinstance(part, ast.FunctionDef)]
            self.assertEqual(len(names), len(node.body) - 1, where)
            self.assertEqual(len(names), len(set(names)), where)
            methods.update(names)
        for where, node in self.nodes(ast.Attribute):
            if isinstance(node.ctx, ast.Store):
                self.assertIsInstance(node.value, ast.Name, where)
                self.assertNotIn(node.attr, TAKEN - FREE_VALUES, where)
                kept.add(node.attr)
        self.assertEqual(methods & kept, set())
        self.assertEqual(methods & TAKEN, {"__init__"})

    def test_l6_statements(self):
        for where, node in self.nodes(ast.stmt):
            self.assertIsInstance(node, STATEMENTS, where)
            if isinstance(node, ast.Assign):
                self.assertEqual(len(node.targets), 1, where)
            if isinstance(node, (ast.For, ast.While)):
                self.assertEqual(node.orelse, [], where)
            if isinstance(node, ast.Try):
                self.assertEqual(node.finalbody, [], where)
                self.assertTrue(all(handler.type is not None for handler in node.handlers), where)
            if isinstance(node, ast.Expr):
                self.assertIsInstance(node.value, (ast.Call, ast.Constant), where)

    def test_l7_expressions(self):
        for where, node in self.nodes(ast.expr):
            self.assertIsInstance(node, EXPRESSIONS, where)
            if isinstance(node, ast.Constant):
                self.assertIsInstance(node.value, (int, str, type(None)), where)
            if isinstance(node, ast.BinOp):
                self.assertNotIsInstance(node.op, (ast.Div, ast.MatMult), where)
            if isinstance(node, ast.ListComp):
                self.assertEqual(len(node.generators), 1, where)
                self.assertLessEqual(len(node.generators[0].ifs), 1, where)

    def test_l8_l12_l15_and_l17_names(self):
        for path, text, tree in self.each_file():
            own = set(tops(tree)) | {name.name for node in tree.body if isinstance(node, ast.ImportFrom)
                                     for name in node.names}
            bound = {node.id for node in ast.walk(tree) if isinstance(node, ast.Name)
                     and isinstance(node.ctx, ast.Store)} | {node.arg for node in ast.walk(tree)
                                                             if isinstance(node, ast.arg)}
            bound |= {node.name for node in ast.walk(tree) if isinstance(node, ast.ExceptHandler) and node.name}
            self.assertEqual(bound & set(dir(builtins)), set(), path.name)
            self.assertEqual((own | bound) & NOT_USED, set(), path.name)
            inner = bound - {node.targets[0].id for node in tree.body if isinstance(node, ast.Assign)}
            self.assertEqual(inner & own, set(), f"{path.name}: locals called like something of the top")
            for name in own | bound:
                self.assertRegex(name, r"^[A-Za-z][A-Za-z0-9_]*$", path.name)
            for node in ast.walk(tree):
                if isinstance(node, ast.Name) and isinstance(node.ctx, ast.Load):
                    self.assertIn(node.id, own | bound | set(OWN_NAMES), path.name)

    def test_l10_and_l14_size_and_signs(self):
        for path, text, tree in self.each_file():
            self.assertLessEqual(len(text.splitlines()), 399, path.name)
            self.assertLessEqual(max(map(len, text.splitlines())), 120, path.name)
            self.assertRegex(text, r"\A[ -~\n]*\Z", path.name)
            for node in ast.walk(tree):
                if isinstance(node, ast.FunctionDef):
                    self.assertLessEqual(node.end_lineno - node.lineno + 1, 40, node.name)

    def test_l15_what_a_files_top_holds_within(self):
        for path, text, tree in self.each_file():
            for node in tree.body:
                if isinstance(node, ast.Assign) and isinstance(node.value, (ast.List, ast.Dict, ast.Tuple)):
                    within = [part for part in ast.walk(node.value) if isinstance(part, (ast.List, ast.Dict))]
                    self.assertIn(within, ([], [node.value]), f"{path.name}:{node.lineno}")

    def test_l17_words_that_stand_nowhere(self):
        for path, text, tree in self.each_file():
            self.assertIsNone(re.search(rf"\b({NEVER})\b|dataclass|overload|contextmanager", text), path.name)

    def test_l19_errors(self):
        own = tops(ast.parse((PACKAGE / "refusals.py").read_text()))
        for where, node in self.nodes(ast.ExceptHandler):
            self.assertIsInstance(node.type, ast.Name, where)
            self.assertIn(node.type.id, [*own, "KeyError", "ZeroDivisionError", "StopIteration"], where)
        for where, node in self.nodes(ast.Raise):
            self.assertIsInstance(node.exc, ast.Call, where)
            self.assertIn(node.exc.func.id, own, where)

    def test_l20_is(self):
        for where, node in self.nodes(ast.Compare):
            for sign, other in zip(node.ops, node.comparators):
                if isinstance(sign, (ast.Is, ast.IsNot)):
                    self.assertIn(getattr(other, "value", 0), (None, True, False), where)

    def test_l21_annotations(self):
        for where, node in self.nodes(ast.FunctionDef):
            self.assertIsNone(node.returns, where)
            self.assertTrue(all(part.annotation is None for part in node.args.args), where)

    def test_l22_keywords(self):
        allowed = {"sorted": {"key", "reverse"}, "min": {"key", "default"}, "max": {"key", "default"},
                   "sum": {"start"}, "enumerate": {"start"}, "zip": {"strict"}}
        for where, node in self.nodes(ast.Call):
            if isinstance(node.func, ast.Name):
                self.assertLessEqual({word.arg for word in node.keywords}, allowed.get(node.func.id, set()), where)
            else:
                self.assertEqual(node.keywords, [], where)

    def test_l23_walked_at_once(self):
        walked = {"zip", "enumerate", "reversed", "range"}
        allowed = {"list", "tuple", "dict", "sorted", "sum", "any", "all", "enumerate", "zip", "min", "max"}
        on_the_spot = [node.iter for where, node in self.nodes(ast.For, ast.comprehension)]
        on_the_spot += [node.args[0] for where, node in self.nodes(ast.Call)
                        if isinstance(node.func, ast.Name) and node.func.id in allowed and node.args]
        places = {(node.lineno, node.col_offset, ast.dump(node)) for node in on_the_spot}
        for where, node in self.nodes(ast.Call):
            if isinstance(node.func, ast.Name) and node.func.id in walked:
                self.assertIn((node.lineno, node.col_offset, ast.dump(node)), places, where)

    def test_l24_sets(self):
        at_once = [node.args[0] for where, node in self.nodes(ast.Call)
                   if isinstance(node.func, ast.Name) and node.func.id in ("sorted", "len") and not node.keywords]
        places = {(node.lineno, node.col_offset, ast.dump(node)) for node in at_once}
        for where, node in self.nodes(ast.Call):
            if isinstance(node.func, ast.Name) and node.func.id in ("set", "frozenset"):
                self.assertIn((node.lineno, node.col_offset, ast.dump(node)), places, where)

    def test_l28_methods_with_two_underscores(self):
        for where, node in self.nodes(ast.FunctionDef):
            if node.name.startswith("__"):
                self.assertEqual(node.name, "__init__", where)
                self.assertFalse([part for part in ast.walk(node) if isinstance(part, ast.Return)], where)

    def test_l25_and_l26_methods(self):
        own = {node.name for where, node in self.nodes(ast.FunctionDef)}
        for where, node in self.nodes(ast.Call):
            if isinstance(node.func, ast.Attribute):
                self.assertIn(node.func.attr, set(METHODS) | own, where)

    def test_l27_numbers_and_texts(self):
        for where, node in self.nodes(ast.BinOp):
            if isinstance(node.op, ast.Pow):
                self.assertIsInstance(node.right, ast.Constant, where)
        for where, node in self.nodes(ast.Constant):
            if isinstance(node.value, str):
                self.assertNotIn("%", node.value, where)

    def test_l16_the_interface_stands_in_its_file(self):
        homes = [path.stem for path, text, tree in self.each_file() if "answers" in tops(tree)]
        self.assertEqual(homes, ["fields"])
        self.assertEqual(tops(ast.parse((PACKAGE / "__init__.py").read_text())), [])


def tops(tree):
    """The names that a file's top binds itself."""
    names = [node.name for node in tree.body if isinstance(node, (ast.FunctionDef, ast.ClassDef))]
    return names + [node.targets[0].id for node in tree.body if isinstance(node, ast.Assign)]
