"""The package keeps to the part of Python that LANGUAGE.md tells: what of its rules can be seen in the files."""

import ast
import pathlib
import re
import unittest

PACKAGE = pathlib.Path(__file__).resolve().parent.parent / "treatyregistry"

STATEMENTS = (ast.FunctionDef, ast.ClassDef, ast.ImportFrom, ast.Assign, ast.AugAssign, ast.If, ast.While, ast.For,
              ast.Return, ast.Break, ast.Continue, ast.Pass, ast.Raise, ast.Try, ast.ExceptHandler, ast.Expr)
EXPRESSIONS = (ast.Constant, ast.List, ast.Tuple, ast.Dict, ast.BinOp, ast.UnaryOp, ast.BoolOp, ast.Compare,
               ast.IfExp, ast.Call, ast.Attribute, ast.Subscript, ast.Slice, ast.ListComp, ast.comprehension,
               ast.Name, ast.keyword, ast.arguments, ast.arg, ast.alias, ast.Module, ast.Lambda, ast.JoinedStr,
               ast.FormattedValue)
SIGNS = (ast.Add, ast.Sub, ast.Mult, ast.FloorDiv, ast.Mod, ast.BitAnd, ast.BitOr, ast.BitXor, ast.LShift,
         ast.RShift, ast.Invert, ast.USub, ast.UAdd, ast.Not, ast.And, ast.Or, ast.cmpop, ast.expr_context)
BUILT_IN = set("""len range enumerate zip min max sum abs sorted reversed int str bool list tuple dict set frozenset
    isinstance ord repr any all divmod Exception ValueError TypeError KeyError IndexError LookupError
    ZeroDivisionError ArithmeticError OverflowError RuntimeError NotImplementedError AttributeError
    StopIteration""".split())
METHODS = set("""append clear copy count endswith extend find get index insert isalnum isalpha isdigit islower isspace
    isupper items join keys ljust lower lstrip partition pop remove replace reverse rfind rjust rpartition rsplit
    rstrip setdefault split splitlines startswith strip update upper values zfill bit_length""".split())
NOT_USED = set("""register mro elements open input version_info with_traceback add_note format format_map""".split())
NO_WORDS = re.compile(r"\b(type|typing|typing_extensions|enum|Enum|IntEnum|StrEnum|Flag|IntFlag|Generic|Protocol|ABC"
                      r"|ABCMeta|namedtuple|NamedTuple|TypedDict|TYPE_CHECKING|abstractmethod)\b"
                      r"|dataclass|overload|contextmanager")


def files():
    return sorted(path for path in PACKAGE.rglob("*") if path.is_file() and "__pycache__" not in path.parts)


def trees():
    return [(path.name, ast.parse(path.read_text())) for path in files()]


def defs(tree, kind=ast.FunctionDef):
    return [node for node in ast.walk(tree) if isinstance(node, kind)]


def bound_at_top(tree):
    names = []
    for node in tree.body:
        if isinstance(node, ast.Assign):
            names.append(node.targets[0].id)
        if isinstance(node, (ast.FunctionDef, ast.ClassDef)):
            names.append(node.name)
        if isinstance(node, ast.ImportFrom):
            names += [each.name for each in node.names]
    return names


def imported(tree):
    return {each.name for node in defs(tree, ast.ImportFrom) for each in node.names}


def bound_in(function):
    names = [each.arg for each in function.args.args]
    return names + [node.id for node in ast.walk(function) if isinstance(node, ast.Name)
                    and isinstance(node.ctx, ast.Store)]


class Files(unittest.TestCase):
    def test_names(self):
        self.assertIn("registry.py", [path.name for path in files()])
        for path in files():
            self.assertRegex(path.name, r"^(__init__|[a-z][a-z0-9_]*)\.py$")

    def test_signs_and_sizes(self):
        for path in files():
            text = path.read_bytes().decode("ascii")
            self.assertRegex(text, r"^[ -~\n]*$")
            self.assertLessEqual(len(text.splitlines()), 400)
            self.assertLessEqual(max(len(row) for row in text.splitlines()), 120)
            self.assertIsNone(NO_WORDS.search(text), path.name)

    def test_functions_are_short(self):
        for name, tree in trees():
            for function in defs(tree):
                self.assertLessEqual(function.end_lineno - function.lineno + 1, 40, (name, function.name))


class Forms(unittest.TestCase):
    def test_only_these_forms(self):
        for name, tree in trees():
            for node in ast.walk(tree):
                self.assertIsInstance(node, STATEMENTS + EXPRESSIONS + SIGNS, (name, getattr(node, "lineno", 0)))

    def test_statements(self):
        for name, tree in trees():
            for node in defs(tree, ast.Assign):
                self.assertEqual(len(node.targets), 1)
                self.assertIsInstance(node.targets[0], (ast.Name, ast.Attribute, ast.Subscript), (name, node.lineno))
            for node in defs(tree, (ast.For, ast.While)):
                self.assertEqual(node.orelse, [])
            for node in defs(tree, ast.Expr):
                at_top = node == tree.body[0] and isinstance(node.value, ast.Constant)
                self.assertTrue(at_top or isinstance(node.value, ast.Call), (name, node.lineno))
            for node in defs(tree, ast.Constant):
                self.assertIn(type(node.value), (int, str, bool, type(None)))

    def test_functions_and_classes(self):
        for name, tree in trees():
            for function in defs(tree):
                told = function.args
                self.assertEqual((told.vararg, told.kwarg, told.kwonlyargs, told.posonlyargs), (None, None, [], []))
                self.assertEqual(function.decorator_list, [])
            for each in defs(tree, ast.ClassDef):
                self.assertIn(each, tree.body)
                self.assertEqual(each.decorator_list, [])
                self.assertEqual({type(node) for node in each.body}, {ast.FunctionDef})

    def test_the_top_of_a_file(self):
        for name, tree in trees():
            above = set()
            for node in tree.body[1:]:
                self.assertIsInstance(node, (ast.ImportFrom, ast.FunctionDef, ast.ClassDef, ast.Assign))
                if isinstance(node, ast.FunctionDef):
                    above.add(node.name)
                if isinstance(node, ast.Assign):
                    for part in ast.walk(node.value):
                        plain = (ast.Constant, ast.Tuple, ast.Dict, ast.List, ast.UnaryOp, ast.USub, ast.Load)
                        known = isinstance(part, ast.Name) and part.id in above
                        self.assertTrue(known or isinstance(part, plain), (name, node.lineno))
                        if part != node.value:
                            self.assertNotIsInstance(part, (ast.Dict, ast.List), (name, node.lineno))

    def test_imports(self):
        drawn = {}
        tops = {name: set(bound_at_top(tree)) - imported(tree) for name, tree in trees()}
        for name, tree in trees():
            rows = defs(tree, ast.ImportFrom)
            self.assertEqual([row for row in rows if row not in tree.body or row.level], [])
            drawn[name] = [row.module.split(".")[1] + ".py" for row in rows]
            for row in rows:
                self.assertEqual(row.module.split(".")[0], "treatyregistry")
                self.assertEqual([each.asname for each in row.names], [None] * len(row.names))
                self.assertLessEqual({each.name for each in row.names}, tops[row.module.split(".")[1] + ".py"])
        self.assertEqual(drawn["__init__.py"], [])
        # Files that draw from none are taken away, again and again: only a ring would be left.
        while any(not rows for rows in drawn.values()):
            free = [name for name, rows in drawn.items() if not rows]
            drawn = {name: [row for row in rows if row not in free] for name, rows in drawn.items() if name not in free}
        self.assertEqual(drawn, {})

    def test_walked_at_once(self):
        for name, tree in trees():
            walked = [node.iter for node in defs(tree, (ast.For, ast.comprehension))]
            for node in defs(tree, ast.Call):
                if isinstance(node.func, ast.Name) and node.func.id in ("range", "zip", "enumerate", "reversed"):
                    self.assertIn(node, walked, (name, node.lineno))

    def test_is_stands_beside_none_alone(self):
        for name, tree in trees():
            for node in defs(tree, ast.Compare):
                if any(isinstance(sign, (ast.Is, ast.IsNot)) for sign in node.ops):
                    self.assertIsNone(node.comparators[0].value, (name, node.lineno))

    def test_dicts_and_lists_of_the_top_are_only_read(self):
        kept = {node.targets[0].id for name, tree in trees() for node in tree.body
                if isinstance(node, ast.Assign) and isinstance(node.value, (ast.Dict, ast.List))}
        for name, tree in trees():
            read = [node.value for node in defs(tree, ast.Subscript) if isinstance(node.ctx, ast.Load)]
            read += [node.comparators[0] for node in defs(tree, ast.Compare)]
            for node in defs(tree, ast.Name):
                if node.id in kept and isinstance(node.ctx, ast.Load):
                    self.assertIn(node, read, (name, node.lineno))

    def test_calls_of_methods(self):
        own = {each.name for name, tree in trees() for each in defs(tree)}
        for name, tree in trees():
            for node in defs(tree, ast.Call):
                if isinstance(node.func, ast.Attribute):
                    self.assertIn(node.func.attr, METHODS | own, (name, node.lineno))


class Names(unittest.TestCase):
    def test_each_is_bound_once_at_the_top(self):
        for name, tree in trees():
            names = bound_at_top(tree)
            self.assertEqual(len(names), len(set(names)), name)

    def test_plain_ones_and_none_of_pythons_own(self):
        for name, tree in trees():
            names = bound_at_top(tree)
            for function in defs(tree):
                names += bound_in(function)
            for each in names:
                self.assertRegex(each, r"^[A-Za-z][A-Za-z0-9_]*$")
                self.assertNotIn(each, dir(__builtins__) if not isinstance(__builtins__, dict) else __builtins__)
                self.assertNotIn(each, NOT_USED)

    def test_locals_are_not_called_like_what_stands_at_the_top(self):
        for name, tree in trees():
            for function in defs(tree):
                self.assertEqual(set(bound_in(function)) & set(bound_at_top(tree)), set(), (name, function.name))

    def test_of_pythons_own_only_these(self):
        for name, tree in trees():
            known = set(bound_at_top(tree)) | BUILT_IN
            for function in defs(tree):
                known |= set(bound_in(function))
            for node in defs(tree, ast.Name):
                self.assertIn(node.id, known, (name, node.lineno))

    def test_a_method_here_is_no_value_there(self):
        methods = {each.name for name, tree in trees() for owner in defs(tree, ast.ClassDef) for each in owner.body}
        given = {node.attr for name, tree in trees() for node in defs(tree, ast.Attribute)
                 if isinstance(node.ctx, ast.Store)}
        self.assertEqual(methods & given, set())
        free = set(dir(str) + dir(int) + dir(list) + dir(dict) + dir(set) + dir(bytes))
        self.assertEqual((given | methods) & free, {"__init__"})


if __name__ == "__main__":
    unittest.main()
