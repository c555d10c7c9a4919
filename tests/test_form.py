"""The form of the package's files, as far as a rule of LANGUAGE.md can be seen in the code."""

import ast
import builtins
import pathlib
import re
import unittest

PACKAGE = pathlib.Path(__file__).resolve().parent.parent / "hallgames"
FILES = sorted(path for path in PACKAGE.rglob("*") if "__pycache__" not in path.parts)

ERRORS = """Exception ValueError TypeError KeyError IndexError LookupError ZeroDivisionError ArithmeticError
    OverflowError RuntimeError NotImplementedError AttributeError StopIteration""".split()
CALLABLE = """len range enumerate zip min max sum abs sorted reversed int str bool list tuple dict set frozenset
    isinstance ord repr any all divmod""".split()
METHODS = """append clear copy count endswith extend find get index insert isalnum isalpha isdigit islower isspace
    isupper items join keys ljust lower lstrip partition pop remove replace reverse rfind rjust rpartition rsplit
    rstrip setdefault split splitlines startswith strip update upper values zfill bit_length""".split()
WALKED = "zip enumerate reversed range".split()
NOT_AS_WORDS = """type typing typing_extensions enum Enum IntEnum StrEnum Flag IntFlag Generic Protocol ABC ABCMeta
    namedtuple NamedTuple TypedDict TYPE_CHECKING abstractmethod""".split()
NOT_AS_NAMES = """register mro elements open input version_info with_traceback add_note format format_map
    args encode sort""".split()
PYTHONS_OWN = {name for kind in (str, int, list, dict, set, bytes, tuple) for name in dir(kind)}
NODES = (ast.Module, ast.FunctionDef, ast.ClassDef, ast.arguments, ast.arg, ast.ImportFrom, ast.alias, ast.Assign,
         ast.AugAssign, ast.If, ast.While, ast.For, ast.Return, ast.Break, ast.Continue, ast.Pass, ast.Raise, ast.Try,
         ast.ExceptHandler, ast.Expr, ast.Constant, ast.Name, ast.List, ast.Tuple, ast.Dict, ast.BinOp, ast.UnaryOp,
         ast.Compare, ast.BoolOp, ast.IfExp, ast.Call, ast.keyword, ast.Attribute, ast.Subscript, ast.Slice,
         ast.ListComp, ast.comprehension, ast.JoinedStr, ast.FormattedValue, ast.Lambda, ast.expr_context,
         ast.operator, ast.unaryop, ast.cmpop, ast.boolop)


def tree_of(path):
    return ast.parse(path.read_text("ascii"))


def nodes(kind):
    for path in FILES:
        for node in ast.walk(tree_of(path)):
            if isinstance(node, kind):
                yield path.name, node


def own_methods():
    return {node.name for where, one in nodes(ast.ClassDef) for node in one.body if isinstance(node, ast.FunctionDef)}


class Files(unittest.TestCase):
    def test_names_and_signs(self):
        self.assertIn(PACKAGE / "__init__.py", FILES)
        for path in FILES:
            self.assertRegex(path.name, r"^([a-z][a-z0-9_]*|__init__)\.py$")
            self.assertNotIn(path.stem, dir(builtins))
            self.assertRegex(path.read_text("utf-8"), r"\A[ -~\n]*\Z")

    def test_sizes(self):
        for path in FILES:
            rows = path.read_text().split("\n")
            self.assertLessEqual(len(rows), 400, path)
            self.assertLessEqual(max(map(len, rows)), 120, path)
        for where, node in nodes(ast.FunctionDef):
            self.assertLessEqual(node.end_lineno - node.lineno + 1, 40, (where, node.name))

    def test_words_that_stand_nowhere(self):
        for path in FILES:
            text = path.read_text()
            self.assertEqual([word for word in re.findall(r"\w+", text) if word in NOT_AS_WORDS], [], path)
            self.assertIsNone(re.search("dataclass|overload|contextmanager", text), path)

    def test_imports(self):
        drawn = {}
        for path in FILES:
            drawn[path.stem] = []
            for node in tree_of(path).body:
                if isinstance(node, ast.ImportFrom):
                    self.assertRegex(node.module, r"^hallgames\.\w+$")
                    source = node.module.split(".")[1]
                    drawn[path.stem].append(source)
                    defined = self.bound_at_top(tree_of(PACKAGE / (source + ".py")))
                    for name in node.names:
                        self.assertIsNone(name.asname)
                        self.assertIn(name.name, defined, path)
        while drawn:
            free = [name for name in drawn if not any(source in drawn for source in drawn[name])]
            self.assertTrue(free, f"files draw from one another: {sorted(drawn)}")
            for name in free:
                drawn.pop(name)

    def bound_at_top(self, tree):
        bound = [node.name for node in tree.body if isinstance(node, (ast.FunctionDef, ast.ClassDef))]
        bound += [node.targets[0].id for node in tree.body if isinstance(node, ast.Assign)]
        self.assertEqual(len(bound), len(set(bound)))
        return bound

    def test_the_top_of_a_module(self):
        kinds = (ast.ImportFrom, ast.FunctionDef, ast.ClassDef, ast.Assign)
        plain = (ast.Constant, ast.Tuple, ast.List, ast.Dict, ast.UnaryOp, ast.USub, ast.expr_context)
        for path in FILES:
            body = tree_of(path).body
            self.assertIsInstance(body[0].value.value, str)
            for node in body[1:]:
                self.assertIsInstance(node, kinds, path)
                if isinstance(node, ast.Assign):
                    for part in ast.walk(node.value):
                        self.assertIsInstance(part, plain, path)


class Code(unittest.TestCase):
    def test_statements_and_expressions(self):
        for where, node in nodes(ast.AST):
            self.assertIsInstance(node, NODES, where)
            self.assertNotIsInstance(node, (ast.Div, ast.MatMult, ast.Pow), where)
        for where, node in nodes(ast.Assign):
            self.assertEqual(len(node.targets), 1, where)
        for where, node in nodes((ast.For, ast.While)):
            self.assertEqual(node.orelse, [], where)
        for where, node in nodes(ast.Try):
            self.assertEqual(node.finalbody, [], where)
        for where, node in nodes(ast.ListComp):
            self.assertEqual(len(node.generators), 1, where)
            self.assertLessEqual(len(node.generators[0].ifs), 1, where)

    def test_expressions_that_stand_alone_are_calls(self):
        for path in FILES:
            tree = tree_of(path)
            for node in ast.walk(tree):
                if isinstance(node, ast.Expr) and node != tree.body[0]:
                    self.assertIsInstance(node.value, ast.Call, path)

    def test_constants(self):
        for where, node in nodes(ast.Constant):
            self.assertTrue(node.value is None or isinstance(node.value, (int, str)), where)
            if isinstance(node.value, str):
                self.assertNotIn("%", node.value, where)

    def test_functions(self):
        for where, node in nodes(ast.FunctionDef):
            spec = node.args
            self.assertEqual((spec.vararg, spec.kwarg, spec.kwonlyargs, spec.posonlyargs), (None, None, [], []), where)
            self.assertEqual((node.decorator_list, node.returns), ([], None), where)
            self.assertEqual([one.annotation for one in spec.args if one.annotation], [], where)

    def test_names(self):
        for path in FILES:
            tree = tree_of(path)
            fixed = {node.name for node in tree.body if isinstance(node, ast.ClassDef)}
            fixed |= {name.name for node in tree.body if isinstance(node, ast.ImportFrom) for name in node.names}
            at_top = fixed | {node.name for node in tree.body if isinstance(node, ast.FunctionDef)}
            at_top |= {node.targets[0].id for node in tree.body if isinstance(node, ast.Assign)}
            for node in ast.walk(tree):
                if isinstance(node, ast.FunctionDef):
                    self.names_of_one_function(path, node, fixed, at_top)

    def names_of_one_function(self, path, node, fixed, at_top):
        local = {part.arg for part in ast.walk(node) if isinstance(part, ast.arg)}
        local |= {part.name for part in ast.walk(node) if isinstance(part, ast.ExceptHandler) and part.name}
        names = [part for part in ast.walk(node) if isinstance(part, ast.Name)]
        local |= {part.id for part in names if isinstance(part.ctx, ast.Store)}
        for name in local:
            self.assertRegex(name, r"^[A-Za-z][A-Za-z0-9_]*$", path)
            self.assertFalse(hasattr(builtins, name) or name in fixed or name in NOT_AS_NAMES, (path, name))
        for part in names:
            self.assertIn(part.id, local | at_top | set(ERRORS) | set(CALLABLE), path)

    def test_classes(self):
        stored = {node.attr for where, node in nodes(ast.Attribute) if isinstance(node.ctx, ast.Store)}
        self.assertEqual(stored & own_methods(), set())
        self.assertEqual(stored & PYTHONS_OWN, set())
        for where, node in nodes(ast.ClassDef):
            self.assertEqual((node.decorator_list, node.keywords), ([], []), where)
            self.assertLessEqual(len(node.bases), 1, where)
            methods = [part.name for part in node.body]
            self.assertEqual(len(methods), len(set(methods)), where)
            self.assertEqual([name for name in methods if name.startswith("_") and name != "__init__"], [], where)

    def test_methods_that_are_called(self):
        called = [(where, node.func.attr) for where, node in nodes(ast.Call) if isinstance(node.func, ast.Attribute)]
        for where, name in called:
            self.assertIn(name, set(METHODS) | own_methods(), where)
        for where, node in nodes(ast.Attribute):
            self.assertNotIn(node.attr, NOT_AS_NAMES, where)

    def test_errors(self):
        for where, node in nodes(ast.ExceptHandler):
            self.assertIsInstance(node.type, ast.Name, where)
            self.assertNotIn(node.type.id, ERRORS, where)
        for where, node in nodes(ast.Raise):
            self.assertIsInstance(node.exc, ast.Call, where)

    def test_is(self):
        for where, node in nodes(ast.Compare):
            for operator, right in zip(node.ops, node.comparators):
                if isinstance(operator, (ast.Is, ast.IsNot)):
                    self.assertIn(ast.dump(right), [ast.dump(ast.Constant(value)) for value in (None, True, False)], where)

    def test_walked_on_the_spot(self):
        for path in FILES:
            tree = tree_of(path)
            walked = [node.iter for node in ast.walk(tree) if isinstance(node, (ast.For, ast.comprehension))]
            for node in ast.walk(tree):
                if isinstance(node, ast.Call) and isinstance(node.func, ast.Name) and node.func.id in WALKED:
                    self.assertIn(node, walked, path)


if __name__ == "__main__":
    unittest.main()
