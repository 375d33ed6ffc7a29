"""The package keeps to its part of Python, as far as a short check can see it (rules L1 to L28)."""

import ast
import builtins
import pathlib
import re
import unittest

PACKAGE = pathlib.Path(__file__).resolve().parent.parent / "binnedtrees"

STATEMENTS = (
    ast.Module, ast.FunctionDef, ast.ClassDef, ast.ImportFrom, ast.alias, ast.arguments, ast.arg, ast.Assign,
    ast.AnnAssign, ast.AugAssign, ast.If, ast.While, ast.For, ast.Return, ast.Break, ast.Continue, ast.Pass,
    ast.Raise, ast.Try, ast.ExceptHandler, ast.Expr)

VALUES = (
    ast.Constant, ast.Name, ast.List, ast.Tuple, ast.Dict, ast.Set, ast.BinOp, ast.UnaryOp, ast.BoolOp, ast.Compare,
    ast.IfExp, ast.Call, ast.keyword, ast.Attribute, ast.Subscript, ast.Slice, ast.ListComp, ast.comprehension,
    ast.JoinedStr, ast.FormattedValue, ast.Lambda, ast.operator, ast.unaryop, ast.boolop, ast.cmpop, ast.expr_context)

OWN_OF_PYTHON = set("""
    len range enumerate zip min max sum abs sorted reversed int str bool list tuple dict set frozenset isinstance ord
    repr any all divmod Exception ValueError TypeError KeyError IndexError LookupError ZeroDivisionError
    ArithmeticError OverflowError RuntimeError NotImplementedError AttributeError StopIteration""".split())

METHODS_OF_PYTHON = set("""
    append clear copy count endswith extend find get index insert isalnum isalpha isdigit islower isspace isupper
    items join keys ljust lower lstrip partition pop remove replace reverse rfind rjust rpartition rsplit rstrip
    setdefault split splitlines startswith strip update upper values zfill bit_length""".split())

NOWHERE = re.compile(
    r"\b(type|typing|typing_extensions|enum|Enum|IntEnum|StrEnum|Flag|IntFlag|Generic|Protocol|ABC|ABCMeta|namedtuple"
    r"|NamedTuple|TypedDict|TYPE_CHECKING|abstractmethod)\b|dataclass|overload|contextmanager")

FILES = sorted(path for path in PACKAGE.iterdir() if path.name != "__pycache__")
TREES = {path.stem: ast.parse(path.read_text()) for path in FILES}


def everything(kind):
    return [(stem, node) for stem, whole in TREES.items() for node in ast.walk(whole) if isinstance(node, kind)]


class Files(unittest.TestCase):
    def test_names(self):
        for path in FILES:
            self.assertRegex(path.name, r"^(__init__|[a-z][a-z0-9_]*)\.py$")
        self.assertIn("__init__", TREES)

    def test_signs_and_sizes(self):
        for path in FILES:
            text = path.read_bytes().decode("ascii")
            self.assertRegex(text, r"\A[ -~\n]*\Z", path.name)
            self.assertLess(len(text.splitlines()), 400, path.name)
            self.assertLessEqual(max(len(line) for line in text.splitlines()), 120, path.name)
            self.assertIsNone(NOWHERE.search(text), path.name)

    def test_functions_have_at_most_40_lines(self):
        for stem, node in everything(ast.FunctionDef):
            self.assertLessEqual(node.end_lineno - node.lineno + 1, 40, f"{stem}.{node.name}")

    def test_docstrings(self):
        for stem, whole in TREES.items():
            self.assertTrue(ast.get_docstring(whole), stem)


class Forms(unittest.TestCase):
    def test_statements_and_values(self):
        for stem, node in everything(ast.AST):
            where = f"{stem}:{getattr(node, 'lineno', 0)} {type(node).__name__}"
            self.assertIsInstance(node, STATEMENTS + VALUES, where)
            self.assertNotIsInstance(node, (ast.Div, ast.MatMult), where)
            if isinstance(node, ast.Assign):
                self.assertEqual(len(node.targets), 1, where)
            if isinstance(node, ast.Expr) and node is not TREES[stem].body[0]:
                self.assertIsInstance(node.value, ast.Call, where)
            if isinstance(node, (ast.While, ast.For)):
                self.assertEqual(node.orelse, [], where)
            if isinstance(node, ast.Constant):
                self.assertIsInstance(node.value, (int, str, bool, type(None)), where)

    def test_the_top_of_a_file(self):
        allowed = (ast.ImportFrom, ast.FunctionDef, ast.ClassDef, ast.Assign)
        for stem, whole in TREES.items():
            for node in whole.body[1:]:
                self.assertIsInstance(node, allowed, stem)
                if isinstance(node, ast.Assign):
                    # A plain value: no name, no call, nothing reckoned.
                    ast.literal_eval(node.value)

    def test_functions(self):
        for stem, node in everything(ast.FunctionDef):
            self.assertEqual(node.decorator_list, [], node.name)
            self.assertEqual((node.args.vararg, node.args.kwarg, node.args.kwonlyargs), (None, None, []), node.name)

    def test_classes(self):
        for stem, node in everything(ast.ClassDef):
            self.assertEqual(node.decorator_list, [], node.name)
            self.assertLessEqual(len(node.bases), 1, node.name)
            for part in node.body:
                self.assertIsInstance(part, ast.FunctionDef, node.name)


class Names(unittest.TestCase):
    def test_imports_are_the_packages_own_and_go_round_nowhere(self):
        drawn = {stem: set() for stem in TREES}
        for stem, node in everything(ast.ImportFrom):
            self.assertRegex(node.module, r"^binnedtrees\.[a-z_]+$")
            source = node.module.split(".")[1]
            tops = {part.name for part in TREES[source].body if hasattr(part, "name")}
            tops |= {part.targets[0].id for part in TREES[source].body if isinstance(part, ast.Assign)}
            for alias in node.names:
                self.assertIn(alias.name, tops)
            drawn[stem].add(source)
        self.assertEqual(drawn["__init__"], set())
        while drawn:
            free = [stem for stem in drawn if not drawn[stem] & set(drawn)]
            self.assertNotEqual(free, [], "files that draw from one another")
            for stem in free:
                del drawn[stem]

    def test_every_name_is_plain(self):
        names = [node.id for _, node in everything(ast.Name)] + [node.arg for _, node in everything(ast.arg)]
        for name in names:
            self.assertRegex(name, r"^[A-Za-z][A-Za-z0-9_]*$")

    def test_names_of_python_itself(self):
        bound = [node.id for _, node in everything(ast.Name) if isinstance(node.ctx, ast.Store)]
        bound += [node.arg for _, node in everything(ast.arg)]
        bound += [node.name for whole in TREES.values() for node in whole.body if hasattr(node, "name")]
        for name in bound:
            self.assertFalse(hasattr(builtins, name), name)
        for stem, node in everything(ast.Name):
            if hasattr(builtins, node.id):
                self.assertIn(node.id, OWN_OF_PYTHON, stem)

    def test_methods_and_values_have_names_of_their_own(self):
        methods = {part.name for _, node in everything(ast.ClassDef) for part in node.body
                   if isinstance(part, ast.FunctionDef)}
        given = {node.attr for _, node in everything(ast.Attribute) if isinstance(node.ctx, ast.Store)}
        self.assertEqual(methods & given, set())
        called = {node.func.attr for _, node in everything(ast.Call) if isinstance(node.func, ast.Attribute)}
        self.assertLessEqual(called, methods | METHODS_OF_PYTHON)
        theirs = set(dir(str)) | set(dir(int)) | set(dir(list)) | set(dir(dict)) | set(dir(set)) | set(dir(bytes))
        self.assertEqual((methods - {"__init__"} | given) & theirs, set())

    def test_answers_stands_where_its_name_tells(self):
        tops = [(stem, node) for stem, whole in TREES.items() for node in whole.body]
        places = [stem for stem, node in tops if getattr(node, "name", "") == "answers"]
        self.assertEqual(places, ["replicas"])


if __name__ == "__main__":
    unittest.main()
