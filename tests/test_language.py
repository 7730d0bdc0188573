"""The rules of LANGUAGE.md that a look at the package's files can decide."""

import ast
import builtins
import pathlib
import re
import unittest

PACKAGE = pathlib.Path(__file__).resolve().parent.parent / "wallbonds"
OWN_NAMES = set("""len range enumerate zip min max sum abs sorted reversed int str bool list tuple dict set frozenset
    isinstance ord repr any all divmod Exception ValueError TypeError KeyError IndexError LookupError
    ZeroDivisionError ArithmeticError OverflowError RuntimeError NotImplementedError AttributeError
    StopIteration""".split())
OWN_METHODS = set("""append clear copy count endswith extend find get index insert isalnum isalpha isdigit islower
    isspace isupper items join keys ljust lower lstrip partition pop remove replace reverse rfind rjust rpartition
    rsplit rstrip setdefault split splitlines startswith strip update upper values zfill bit_length __init__""".split())
WORDS_NOWHERE = re.compile(r"\b(type|typing|typing_extensions|enum|Enum|IntEnum|StrEnum|Flag|IntFlag|Generic|Protocol"
                           r"|ABC|ABCMeta|namedtuple|NamedTuple|TypedDict|TYPE_CHECKING|abstractmethod)\b"
                           r"|dataclass|overload|contextmanager")
NODES_NOWHERE = (ast.With, ast.Match, ast.Delete, ast.Global, ast.Nonlocal, ast.Assert, ast.Yield, ast.YieldFrom,
                 ast.AsyncFunctionDef, ast.Await, ast.SetComp, ast.DictComp, ast.GeneratorExp, ast.NamedExpr,
                 ast.Starred, ast.Div, ast.Import)
PLAIN_NODES = (ast.Constant, ast.Tuple, ast.List, ast.Dict, ast.UnaryOp, ast.USub, ast.Load)


def trees():
    for path in sorted(PACKAGE.rglob("*.py")):
        yield path, ast.parse(path.read_text("ascii"))


def nodes():
    for path, tree in trees():
        for node in ast.walk(tree):
            yield f"{path.name}:{getattr(node, 'lineno', 0)}", node


class Language(unittest.TestCase):

    def test_only_python_files_with_plain_names(self):
        for path in PACKAGE.rglob("*"):
            if "__pycache__" not in path.parts:
                self.assertRegex(path.name, r"^[a-z0-9_]+\.py$")

    def test_signs_and_sizes(self):
        for path in PACKAGE.rglob("*.py"):
            text = path.read_bytes().decode("ascii")
            self.assertRegex(text, r"\A[ -~\n]*\Z", path.name)
            self.assertIsNone(WORDS_NOWHERE.search(text), path.name)
            self.assertLessEqual(len(text.splitlines()), 400, path.name)
            self.assertLessEqual(max(map(len, text.splitlines())), 120, path.name)
        for where, node in nodes():
            if isinstance(node, ast.FunctionDef):
                self.assertLessEqual(node.end_lineno - node.lineno + 1, 40, where)

    def test_the_top_of_a_file(self):
        for path, tree in trees():
            bound = []
            for node in tree.body:
                self.assertIsInstance(node, (ast.Expr, ast.ImportFrom, ast.FunctionDef, ast.ClassDef, ast.Assign))
                if isinstance(node, ast.Assign):
                    bound.append(node.targets[0].id)
                    for part in ast.walk(node.value):
                        self.assertIsInstance(part, PLAIN_NODES, f"{path.name}:{node.lineno}")
                elif isinstance(node, (ast.FunctionDef, ast.ClassDef)):
                    bound.append(node.name)
            self.assertEqual(len(bound), len(set(bound)), path.name)

    def test_no_other_statements_or_expressions(self):
        for where, node in nodes():
            self.assertNotIsInstance(node, NODES_NOWHERE, where)
            if isinstance(node, (ast.For, ast.While)):
                self.assertEqual(node.orelse, [], where)
            if isinstance(node, ast.Assign):
                self.assertEqual(len(node.targets), 1, where)
            if isinstance(node, (ast.FunctionDef, ast.ClassDef)):
                self.assertEqual(node.decorator_list, [], where)
            if isinstance(node, ast.Constant):
                self.assertIsInstance(node.value, (int, str, type(None)), where)

    def test_imports_are_the_package_s_own(self):
        for where, node in nodes():
            if isinstance(node, ast.ImportFrom):
                self.assertEqual(node.level, 0, where)
                self.assertRegex(node.module, r"^wallbonds\.", where)
                self.assertNotIn("*", [alias.name for alias in node.names], where)

    def test_names(self):
        given = set(dir(builtins))
        for where, node in nodes():
            if isinstance(node, ast.Name):
                self.assertFalse(node.id.startswith("_"), where)
                if isinstance(node.ctx, ast.Store):
                    self.assertNotIn(node.id, given, where)
                else:
                    self.assertTrue(node.id in OWN_NAMES or node.id not in given, where)
            if isinstance(node, ast.arg):
                self.assertNotIn(node.arg, given, where)

    def test_methods_are_the_program_s_own_or_listed(self):
        own = {node.name for where, node in nodes() if isinstance(node, ast.FunctionDef)}
        for where, node in nodes():
            if isinstance(node, ast.Call) and isinstance(node.func, ast.Attribute):
                self.assertIn(node.func.attr, own | OWN_METHODS, where)

    def test_no_name_is_a_method_here_and_a_value_there(self):
        methods = {method.name for where, node in nodes() if isinstance(node, ast.ClassDef)
                   for method in node.body if isinstance(method, ast.FunctionDef)}
        values = {node.attr for where, node in nodes() if isinstance(node, ast.Attribute)
                  and isinstance(node.ctx, ast.Store)}
        self.assertEqual(methods & values, set())
        for name in values:
            self.assertFalse(any(hasattr(value, name) for value in ("", 0, [], {}, b"")), name)

    def test_no_two_files_draw_from_one_another(self):
        drawn = {path.stem: {node.module.split(".")[1] for node in tree.body if isinstance(node, ast.ImportFrom)}
                 for path, tree in trees()}
        while drawn:
            last = [name for name, sources in drawn.items() if not sources & set(drawn)]
            self.assertNotEqual(last, [])
            drawn = {name: sources for name, sources in drawn.items() if name not in last}

    def test_names_are_drawn_from_the_file_that_defines_them(self):
        binding = (ast.FunctionDef, ast.ClassDef, ast.Assign)
        defined = {path.stem: {getattr(node, "name", None) or node.targets[0].id for node in tree.body
                               if isinstance(node, binding)} for path, tree in trees()}
        for where, node in nodes():
            if isinstance(node, ast.ImportFrom):
                self.assertLessEqual({alias.name for alias in node.names}, defined[node.module.split(".")[1]], where)

    def test_what_is_drawn_is_used_and_not_named_again(self):
        for path, tree in trees():
            drawn = {alias.name for node in tree.body if isinstance(node, ast.ImportFrom) for alias in node.names}
            classes = {node.name for node in tree.body if isinstance(node, ast.ClassDef)}
            used = {node.id for node in ast.walk(tree) if isinstance(node, ast.Name)}
            self.assertLessEqual(drawn, used, path.name)
            local = {node.arg for node in ast.walk(tree) if isinstance(node, ast.arg)}
            local |= {part.id for function in ast.walk(tree) if isinstance(function, ast.FunctionDef)
                      for part in ast.walk(function) if isinstance(part, ast.Name) and isinstance(part.ctx, ast.Store)}
            self.assertEqual(local & (drawn | classes), set(), path.name)

    def test_is_stands_beside_none(self):
        for where, node in nodes():
            if isinstance(node, ast.Compare) and any(isinstance(sign, (ast.Is, ast.IsNot)) for sign in node.ops):
                self.assertIsInstance(node.comparators[0], ast.Constant, where)

    def test_walks_and_sets_stand_where_they_may(self):
        walkers = ("list", "tuple", "dict", "sorted", "sum", "any", "all", "enumerate", "zip", "len")
        walks = {"zip", "enumerate", "reversed", "range", "items", "keys", "values"}
        for path, tree in trees():
            right = set()
            for node in ast.walk(tree):
                if isinstance(node, (ast.For, ast.comprehension)):
                    right.add(node.iter)
                elif isinstance(node, ast.Call) and isinstance(node.func, ast.Name) and node.args:
                    if node.func.id in walkers:
                        right.add(node.args[0])
            for node in ast.walk(tree):
                if isinstance(node, ast.Call) and node not in right:
                    name = getattr(node.func, "id", None) or getattr(node.func, "attr", None)
                    self.assertNotIn(name, walks | {"set"}, f"{path.name}:{node.lineno}")

    def test_errors_are_the_program_s_own(self):
        own = {node.name for where, node in nodes() if isinstance(node, ast.ClassDef)}
        for where, node in nodes():
            if isinstance(node, ast.ExceptHandler):
                self.assertIn(node.type.id, own, where)
            if isinstance(node, ast.Raise):
                self.assertIn(node.exc.func.id, own, where)


if __name__ == "__main__":
    unittest.main()
