"""What can be seen of the language's rules in the package's own files, each by its number."""

import ast
import pathlib
import re
import unittest

PACKAGE = pathlib.Path(__file__).resolve().parent.parent / "payingpromises"
BUILT_IN = """len range enumerate zip min max sum abs sorted reversed int str bool list tuple dict set frozenset isinstance
    ord repr any all divmod Exception ValueError TypeError KeyError IndexError LookupError ZeroDivisionError
    ArithmeticError OverflowError RuntimeError NotImplementedError AttributeError StopIteration""".split()
METHODS = """append clear copy count endswith extend find get index insert isalnum isalpha isdigit islower isspace isupper
    items join keys ljust lower lstrip partition pop remove replace reverse rfind rjust rpartition rsplit rstrip
    setdefault split splitlines startswith strip update upper values zfill bit_length""".split()
NO_VALUES = """items keys values pop update append clear extend insert remove reverse setdefault sort args encode
    format""".split()
NOWHERE = """type typing typing_extensions enum Enum IntEnum StrEnum Flag IntFlag Generic Protocol ABC ABCMeta namedtuple
    NamedTuple TypedDict TYPE_CHECKING abstractmethod""".split()
NO_NAMES = """register mro elements open input version_info with_traceback add_note attrgetter breakpoint builtins compile
    copyright credits delattr dir eval exec exit gc getattr globals hasattr help id importlib license locals
    methodcaller os quit setattr super type vars sys print chr hash next map filter object bytes""".split()
ALLOWED = (
    ast.Module, ast.FunctionDef, ast.ClassDef, ast.arguments, ast.arg, ast.Expr, ast.Constant, ast.ImportFrom, ast.alias,
    ast.Assign, ast.AugAssign, ast.If, ast.While, ast.For, ast.Return, ast.Break, ast.Continue, ast.Pass, ast.Raise,
    ast.Try, ast.ExceptHandler, ast.Name, ast.Attribute, ast.Subscript, ast.Slice, ast.List, ast.Tuple, ast.Dict,
    ast.Set, ast.BinOp, ast.UnaryOp, ast.BoolOp, ast.Compare, ast.IfExp, ast.Call, ast.keyword, ast.ListComp,
    ast.comprehension, ast.JoinedStr, ast.FormattedValue, ast.Lambda, ast.expr_context, ast.operator, ast.unaryop,
    ast.boolop, ast.cmpop,
)

PLAIN = (ast.Constant, ast.Tuple, ast.List, ast.Dict, ast.Name, ast.Load, ast.UnaryOp, ast.USub)


def files():
    return sorted(PACKAGE.glob("*.py"))


def walked():
    for path in files():
        for node in ast.walk(ast.parse(path.read_text())):
            yield f"{path.name}:{getattr(node, 'lineno', 0)}", node


def bound_names():
    for place, node in walked():
        if isinstance(node, (ast.FunctionDef, ast.ClassDef)):
            yield place, node.name
        elif isinstance(node, ast.arg):
            yield place, node.arg
        elif isinstance(node, ast.Name) and isinstance(node.ctx, ast.Store):
            yield place, node.id
        elif isinstance(node, ast.alias):
            yield place, node.asname or node.name


class Language(unittest.TestCase):
    def test_l1_l14_files(self):
        for path in PACKAGE.iterdir():
            if path.name != "__pycache__":
                self.assertRegex(path.name, r"^(__init__|[a-z][a-z0-9_]*)\.py$")
                self.assertNotRegex(path.name, r"^(test|site|conftest|usercustomize)")

    def test_l10_l14_size_and_signs(self):
        for path in files():
            text = path.read_text()
            self.assertLessEqual(text.count("\n"), 400, path.name)
            self.assertTrue(all(sign == "\n" or " " <= sign <= "~" for sign in text), path.name)
            for line in text.split("\n"):
                self.assertLessEqual(len(line), 120, path.name)
        for place, node in walked():
            if isinstance(node, ast.FunctionDef):
                self.assertLessEqual(node.end_lineno - node.lineno + 1, 40, place)

    def test_l2_l16_imports(self):
        drawn = {}
        for path in files():
            drawn[path.stem] = []
            for node in ast.walk(ast.parse(path.read_text())):
                if isinstance(node, ast.ImportFrom):
                    self.assertEqual(node.level, 0)
                    self.assertRegex(node.module, r"^payingpromises\.[a-z_]+$")
                    home = ast.parse((PACKAGE / (node.module.split(".")[1] + ".py")).read_text())
                    defined = [each.name for each in home.body if isinstance(each, (ast.FunctionDef, ast.ClassDef))]
                    defined += [each.targets[0].id for each in home.body if isinstance(each, ast.Assign)]
                    for alias in node.names:
                        self.assertIn(alias.name, defined, path.name)
                    drawn[path.stem].append(node.module.split(".")[1])
        done = []
        while len(done) < len(drawn):
            ready = [name for name in drawn if name not in done and all(each in done for each in drawn[name])]
            self.assertTrue(ready, "files draw from one another")
            done.extend(ready)

    def test_l4_to_l7_kinds_of_code(self):
        for place, node in walked():
            self.assertIsInstance(node, ALLOWED, place)
            if isinstance(node, ast.FunctionDef):
                given = node.args
                self.assertFalse(node.decorator_list or given.vararg or given.kwarg or given.kwonlyargs, place)
            if isinstance(node, (ast.For, ast.While)):
                self.assertFalse(node.orelse, place)
            if isinstance(node, ast.Assign):
                self.assertEqual(len(node.targets), 1, place)
            if isinstance(node, ast.ListComp):
                self.assertEqual(len(node.generators), 1, place)
                self.assertLessEqual(len(node.generators[0].ifs), 1, place)
            if isinstance(node, ast.Constant):
                self.assertNotIsInstance(node.value, (float, bytes, complex), place)
            self.assertNotIsInstance(node, (ast.Div, ast.MatMult, ast.Pow), place)
            if isinstance(node, ast.FormattedValue):
                self.assertIsInstance(node.value, ast.Name, place)

    def test_l3_l15_the_top_of_a_file(self):
        for path in files():
            bound = []
            for node in ast.parse(path.read_text()).body:
                if isinstance(node, (ast.FunctionDef, ast.ClassDef)):
                    bound.append(node.name)
                elif isinstance(node, ast.Assign):
                    bound.append(node.targets[0].id)
                    for inner in ast.walk(node.value):
                        self.assertIsInstance(inner, PLAIN)
                        if isinstance(inner, ast.Name):
                            self.assertIn(inner.id, bound, path.name)
                elif isinstance(node, ast.ImportFrom):
                    bound.extend(alias.name for alias in node.names)
                else:
                    self.assertIsInstance(node.value.value, str)
            self.assertEqual(len(bound), len(set(bound)), path.name)

    def test_l8_l12_l15_l17_names(self):
        for place, name in bound_names():
            self.assertRegex(name, r"^([A-Za-z][A-Za-z0-9_]*|__init__)$", place)
            self.assertNotIn(name, BUILT_IN + NO_NAMES, place)
        for path in files():
            text = path.read_text()
            for word in NOWHERE:
                self.assertIsNone(re.search(rf"\b{word}\b", text), (path.name, word))
            for word in ("dataclass", "overload", "contextmanager"):
                self.assertNotIn(word, text)

    def test_l8_l15_what_names_mean(self):
        for path in files():
            tree = ast.parse(path.read_text())
            top = [alias.name for node in tree.body if isinstance(node, ast.ImportFrom) for alias in node.names]
            top += [node.name for node in tree.body if isinstance(node, (ast.FunctionDef, ast.ClassDef))]
            known = top + [node.targets[0].id for node in tree.body if isinstance(node, ast.Assign)]
            for define in [node for node in ast.walk(tree) if isinstance(node, ast.FunctionDef)]:
                local = [node.arg for node in ast.walk(define) if isinstance(node, ast.arg)]
                local += [node.id for node in ast.walk(define)
                          if isinstance(node, ast.Name) and isinstance(node.ctx, ast.Store)]
                self.assertFalse(set(local) & set(known), (path.name, define.name))
                for node in ast.walk(define):
                    if isinstance(node, ast.Name):
                        self.assertIn(node.id, known + local + BUILT_IN, (path.name, node.lineno))

    def test_l18_l25_l26_methods_and_values(self):
        given = {node.attr for place, node in walked() if isinstance(node, ast.Attribute) and isinstance(node.ctx, ast.Store)}
        for name in given:
            self.assertNotIn(name, NO_VALUES)
            for kind in (str, int, list, dict, set, bytes, tuple):
                self.assertFalse(hasattr(kind, name), name)
        called = {node.func.attr for place, node in walked()
                  if isinstance(node, ast.Call) and isinstance(node.func, ast.Attribute)}
        self.assertLessEqual(called, set(METHODS))
        for place, node in walked():
            if isinstance(node, ast.Attribute):
                self.assertIn(node.attr, given | called, place)

    def test_l20_is(self):
        for place, node in walked():
            if isinstance(node, ast.Compare):
                for sign, right in zip(node.ops, node.comparators):
                    if isinstance(sign, (ast.Is, ast.IsNot)):
                        self.assertIn(right.value, (None, True, False), place)

    def test_l23_walked_at_once(self):
        for path in files():
            nodes = list(ast.walk(ast.parse(path.read_text())))
            named = [node for node in nodes if isinstance(node, ast.Call) and isinstance(node.func, ast.Name)]
            walks = [node.iter for node in nodes if isinstance(node, (ast.For, ast.comprehension))]
            walks += [node.args[0] for node in named
                      if node.func.id in "list tuple dict sorted sum any all enumerate zip".split()]
            for node in named:
                if node.func.id in "zip enumerate reversed range".split():
                    self.assertTrue(any(node is walk for walk in walks), (path.name, node.lineno))

    def test_no_def_calls_itself_in_whatever_many_steps(self):
        calls = {}
        for place, node in walked():
            if isinstance(node, ast.FunctionDef) and node.name != "__init__":
                calls[node.name] = {inner.func.id for inner in ast.walk(node)
                                    if isinstance(inner, ast.Call) and isinstance(inner.func, ast.Name)}
        done = set()
        while len(done) < len(calls):
            ready = {name for name in calls if name not in done and not (calls[name] & set(calls)) - done}
            self.assertTrue(ready, sorted(set(calls) - done))
            done |= ready


if __name__ == "__main__":
    unittest.main()
