"""That the package keeps to LANGUAGE.md, as far as a look at its files can tell."""

import ast
import builtins
import pathlib
import re
import unittest

ROOT = pathlib.Path(__file__).resolve().parent.parent / "rowstamps"
FILES = sorted(path for path in ROOT.rglob("*") if "__pycache__" not in path.parts)

ERRORS = """Exception ValueError TypeError KeyError IndexError LookupError ZeroDivisionError ArithmeticError
    OverflowError RuntimeError NotImplementedError AttributeError StopIteration""".split()
OWN_NAMES = """len range enumerate zip min max sum abs sorted reversed int str bool list tuple dict set frozenset
    isinstance ord repr any all divmod""".split() + ERRORS
METHODS = """append clear copy count endswith extend find get index insert isalnum isalpha isdigit islower isspace
    isupper items join keys ljust lower lstrip partition pop remove replace reverse rfind rjust rpartition rsplit
    rstrip setdefault split splitlines startswith strip update upper values zfill bit_length""".split()
SPECIAL = ["__init__", "__eq__", "__repr__", "__str__", "__len__"]
WORDS = """type typing typing_extensions enum Enum IntEnum StrEnum Flag IntFlag Generic Protocol ABC ABCMeta
    namedtuple NamedTuple TypedDict TYPE_CHECKING abstractmethod""".split()
UNUSED = """register mro elements open input version_info with_traceback add_note attrgetter breakpoint builtins
    compile copyright credits delattr dir eval exec exit gc getattr globals hasattr help id importlib license locals
    methodcaller os quit setattr super vars sys""".split()
NODES = (
    ast.Module, ast.ImportFrom, ast.alias, ast.FunctionDef, ast.arguments, ast.arg, ast.ClassDef, ast.Assign,
    ast.AugAssign, ast.If, ast.While, ast.For, ast.Return, ast.Break, ast.Continue, ast.Pass, ast.Raise, ast.Try,
    ast.ExceptHandler, ast.Expr, ast.Name, ast.Constant, ast.List, ast.Tuple, ast.Dict, ast.BinOp, ast.UnaryOp,
    ast.BoolOp, ast.Compare, ast.IfExp, ast.Call, ast.Attribute, ast.Subscript, ast.Slice, ast.ListComp,
    ast.comprehension, ast.JoinedStr, ast.FormattedValue, ast.Lambda, ast.keyword, ast.expr_context, ast.operator,
    ast.unaryop, ast.boolop, ast.cmpop)
TAKEN = set().union(*(dir(kind) for kind in (str, int, list, dict, set, bytes)))


def code():
    for path in FILES:
        yield path, path.read_text(encoding="utf-8")


def nodes(*kinds):
    for path, text in code():
        for node in ast.walk(ast.parse(text)):
            if isinstance(node, kinds or ast.AST):
                yield f"{path.name}:{getattr(node, 'lineno', 0)}", node


class Files(unittest.TestCase):
    def test_python_files_with_plain_names_alone(self):
        self.assertIn(ROOT / "__init__.py", FILES)
        self.assertIn(ROOT / "store.py", FILES)
        for path in FILES:
            self.assertRegex(path.name, r"^([a-z][a-z0-9_]*|__init__)\.py$")
            self.assertNotIn(path.stem, dir(builtins) + WORDS)

    def test_sizes(self):
        for path, text in code():
            self.assertLessEqual(len(text.splitlines()), 400, path)
            self.assertLessEqual(max(len(line) for line in text.splitlines()), 120, path)
        for where, node in nodes(ast.FunctionDef):
            self.assertLessEqual(node.end_lineno - node.lineno + 1, 40, where)

    def test_signs_and_words(self):
        for path, text in code():
            self.assertRegex(text, r"\A[ -~\n]*\Z", path)
            self.assertEqual([word for word in re.findall(r"\w+", text) if word in WORDS], [], path)
            self.assertNotRegex(text, "dataclass|overload|contextmanager", path)


class Forms(unittest.TestCase):
    def test_only_the_statements_and_expressions_that_are_listed(self):
        for where, node in nodes():
            self.assertIsInstance(node, NODES, where)
            self.assertNotIsInstance(node, (ast.Div, ast.MatMult), where)

    def test_constants(self):
        for where, node in nodes(ast.Constant):
            self.assertIn(type(node.value), (int, str, bool, type(None)), where)
            self.assertNotIn("%", node.value if isinstance(node.value, str) else "", where)

    def test_imports_are_of_the_package(self):
        for where, node in nodes(ast.ImportFrom):
            self.assertEqual(node.level, 0, where)
            self.assertRegex(node.module, r"^rowstamps\.\w+$", where)
            home = ast.parse((ROOT / (node.module.split(".")[1] + ".py")).read_text(encoding="utf-8"))
            made = [top.name for top in home.body if isinstance(top, (ast.FunctionDef, ast.ClassDef))]
            made += [top.targets[0].id for top in home.body if isinstance(top, ast.Assign)]
            for name in node.names:
                self.assertIn(name.name, made, where)
                self.assertIsNone(name.asname, where)

    def test_the_top_of_a_file(self):
        for path, text in code():
            tops = ast.parse(text).body
            self.assertIsNotNone(ast.get_docstring(ast.parse(text)), path)
            bound = []
            for top in tops[1:]:
                self.assertIsInstance(top, (ast.ImportFrom, ast.FunctionDef, ast.ClassDef, ast.Assign), path)
                if isinstance(top, ast.Assign):
                    bound.append(top.targets[0].id)
                elif not isinstance(top, ast.ImportFrom):
                    bound.append(top.name)
            self.assertEqual(len(bound), len(set(bound)), path)

    def test_assignments_have_one_target_and_loops_no_else(self):
        for where, node in nodes(ast.Assign, ast.For, ast.While):
            if isinstance(node, ast.Assign):
                self.assertEqual(len(node.targets), 1, where)
                self.assertIsInstance(node.targets[0], (ast.Name, ast.Attribute, ast.Subscript), where)
            else:
                self.assertEqual(node.orelse, [], where)

    def test_functions_and_classes_are_plain(self):
        for where, node in nodes(ast.FunctionDef, ast.ClassDef):
            self.assertEqual(node.decorator_list, [], where)
            if isinstance(node, ast.FunctionDef):
                self.assertEqual((node.args.vararg, node.args.kwarg, node.args.kwonlyargs), (None, None, []), where)
                self.assertIsNone(node.returns, where)
            else:
                kinds = [type(part) for part in node.body if ast.get_docstring(node) is None or part != node.body[0]]
                self.assertLessEqual(set(kinds), {ast.FunctionDef}, where)

    def test_a_comprehension_has_one_for_and_at_most_one_if(self):
        for where, node in nodes(ast.ListComp):
            self.assertEqual(len(node.generators), 1, where)
            self.assertLessEqual(len(node.generators[0].ifs), 1, where)

    def test_exponents_are_written_out(self):
        for where, node in nodes(ast.Pow):
            self.fail(where)

    def test_a_raised_error_is_made_on_the_spot_and_own_ones_are_taken(self):
        own = [node.name for _, node in nodes(ast.ClassDef) if node.bases]
        for where, node in nodes(ast.Raise):
            self.assertIsInstance(node.exc, ast.Call, where)
            self.assertIn(node.exc.func.id, own, where)
        for where, node in nodes(ast.ExceptHandler):
            self.assertIn(node.type.id, own, where)

    def test_no_local_is_called_like_an_import_or_a_class(self):
        for path, text in code():
            tree = ast.parse(text)
            tops = [name.name for top in tree.body if isinstance(top, ast.ImportFrom) for name in top.names]
            tops += [top.name for top in tree.body if isinstance(top, ast.ClassDef)]
            names = [node for node in ast.walk(tree) if isinstance(node, ast.Name)]
            stored = [node.id for node in names if isinstance(node.ctx, ast.Store)]
            stored += [node.arg for node in ast.walk(tree) if isinstance(node, ast.arg)]
            self.assertEqual(set(tops) & set(stored), set(), path)

    def test_is_stands_beside_none_true_and_false_alone(self):
        for where, node in nodes(ast.Compare):
            for sign, right in zip(node.ops, node.comparators):
                if isinstance(sign, (ast.Is, ast.IsNot)):
                    self.assertIn(getattr(right, "value", 0), (None, True, False), where)
                    self.assertIsInstance(right, ast.Constant, where)


class Names(unittest.TestCase):
    def test_names_of_python(self):
        for where, node in nodes(ast.Name):
            if node.id in dir(builtins):
                self.assertIn(node.id, OWN_NAMES, where)
                self.assertIsInstance(node.ctx, ast.Load, where)
            self.assertNotIn(node.id, UNUSED, where)

    def test_bound_names(self):
        for where, node in nodes(ast.FunctionDef, ast.ClassDef, ast.arg, ast.Name):
            name = getattr(node, "name", None) or getattr(node, "arg", None) or node.id
            if name not in SPECIAL:
                self.assertRegex(name, r"^[A-Za-z][A-Za-z0-9_]*$", where)
            if not isinstance(node, ast.Name):
                self.assertNotIn(name, dir(builtins), where)

    def test_attributes_are_own_or_listed(self):
        methods = [part.name for _, node in nodes(ast.ClassDef) for part in node.body
                   if isinstance(part, ast.FunctionDef)]
        stored = [node.attr for _, node in nodes(ast.Attribute) if isinstance(node.ctx, ast.Store)]
        self.assertEqual(set(methods) & set(stored), set())
        self.assertEqual(set(stored) & TAKEN, set())
        for where, node in nodes(ast.Attribute):
            self.assertIn(node.attr, METHODS + methods + stored, where)
            self.assertNotIn(node.attr, UNUSED, where)


if __name__ == "__main__":
    unittest.main()
