"""The package keeps to the small part of Python that it's to be written in, as far as a test can see."""

import ast
import builtins
import pathlib
import re
import unittest

PACKAGE = pathlib.Path(__file__).resolve().parent.parent / "writtenways"
FILES = sorted(PACKAGE.glob("*.py"))

ALLOWED_BUILTINS = set(
    "len range enumerate zip min max sum abs sorted reversed int str bool list tuple dict set frozenset isinstance "
    "ord repr any all divmod Exception ValueError TypeError KeyError IndexError LookupError ZeroDivisionError "
    "ArithmeticError OverflowError RuntimeError NotImplementedError AttributeError StopIteration".split())
ALLOWED_NODES = set(
    "Module Expr Assign AugAssign If While For Return Break Continue Pass Raise Try ExceptHandler Call ImportFrom alias "
    "FunctionDef arguments arg ClassDef Lambda Constant Name Attribute Subscript Slice List Tuple Dict Set ListComp "
    "comprehension JoinedStr FormattedValue IfExp BoolOp BinOp UnaryOp Compare Load Store And Or Not USub Invert "
    "Add Sub Mult FloorDiv Mod Pow BitAnd BitOr BitXor LShift RShift "
    "Eq NotEq Lt LtE Gt GtE Is IsNot In NotIn".split())
ALLOWED_METHODS = set(
    "append clear copy count endswith extend find get index insert isalnum isalpha isdigit islower isspace isupper "
    "items join keys ljust lower lstrip partition pop remove replace reverse rfind rjust rpartition rsplit rstrip "
    "setdefault split splitlines startswith strip update upper values zfill bit_length".split())
PYTHONS_OWN = {name for kind in (str, int, list, dict, set, bytes, tuple) for name in vars(kind)}
UNUSED_NAMES = set(
    "register mro elements open input version_info with_traceback add_note attrgetter breakpoint builtins compile "
    "copyright credits delattr dir eval exec exit gc getattr globals hasattr help id importlib license locals "
    "methodcaller os quit setattr super type vars sys".split())
UNUSED_WORDS = re.compile(
    r"\b(type|typing|typing_extensions|enum|Enum|IntEnum|StrEnum|Flag|IntFlag|Generic|Protocol|ABC|ABCMeta|namedtuple|"
    r"NamedTuple|TypedDict|TYPE_CHECKING|abstractmethod)\b|dataclass|overload|contextmanager")
WALKED_AT_ONCE = ("zip", "enumerate", "reversed", "range")
WALKERS = ("list", "tuple", "dict", "sorted", "sum", "any", "all", "enumerate", "zip", "min", "max")


def tree_of(file):
    return ast.parse(file.read_text(encoding="utf-8"))


def nodes(kind):
    """All nodes of that kind, each with its file's name and its row."""
    for file in FILES:
        for node in ast.walk(tree_of(file)):
            if isinstance(node, kind):
                yield f"{file.name}:{getattr(node, 'lineno', 0)}", node


def is_docstring(node):
    return isinstance(node, ast.Expr) and isinstance(node.value, ast.Constant) and isinstance(node.value.value, str)


def top_names(tree):
    names = []
    for node in tree.body:
        if isinstance(node, (ast.FunctionDef, ast.ClassDef)):
            names.append(node.name)
        elif isinstance(node, ast.Assign):
            names.append(node.targets[0].id)
    return names


class Files(unittest.TestCase):
    def test_only_plain_files(self):
        names = sorted(path.name for path in PACKAGE.iterdir() if path.name != "__pycache__")
        self.assertEqual(names, [file.name for file in FILES])
        self.assertIn("__init__.py", names)
        for name in names:
            self.assertRegex(name, r"^[a-z0-9_]+\.py$")

    def test_signs_words_and_sizes(self):
        for file in FILES:
            text = file.read_bytes().decode("utf-8")
            self.assertTrue(all(sign == "\n" or " " <= sign <= "~" for sign in text), file.name)
            self.assertIsNone(UNUSED_WORDS.search(text), file.name)
            rows = text.split("\n")
            self.assertLessEqual(len(rows), 400, file.name)
            self.assertLessEqual(max(map(len, rows)), 120, file.name)
        for where, node in nodes(ast.FunctionDef):
            self.assertLessEqual(node.end_lineno - node.lineno + 1, 40, where)


class Tops(unittest.TestCase):
    def test_what_stands_at_the_top(self):
        for file in FILES:
            tree = tree_of(file)
            for node in tree.body:
                if is_docstring(node) or isinstance(node, (ast.ImportFrom, ast.FunctionDef, ast.ClassDef)):
                    continue
                self.assertIsInstance(node, ast.Assign, file.name)
                ast.literal_eval(node.value)
            names = top_names(tree)
            self.assertEqual(len(names), len(set(names)), file.name)

    def test_imports_are_from_the_file_that_defines_the_name(self):
        for where, node in nodes(ast.ImportFrom):
            self.assertEqual(node.level, 0, where)
            self.assertRegex(node.module, r"^writtenways\.[a-z]+$", where)
            defined = top_names(tree_of(PACKAGE / (node.module.split(".")[1] + ".py")))
            for name in node.names:
                self.assertIn(name.name, defined, where)
                self.assertIsNone(name.asname, where)

    def test_no_two_files_draw_from_one_another(self):
        draws = {file.stem: {node.module.split(".")[1] for node in ast.walk(tree_of(file))
                             if isinstance(node, ast.ImportFrom)} for file in FILES}
        while draws:
            free = [name for name in draws if not draws[name]]
            self.assertTrue(free, draws)
            draws = {name: draws[name] - set(free) for name in draws if name not in free}


class Forms(unittest.TestCase):
    def test_allowed_forms_alone(self):
        for where, node in nodes(ast.AST):
            self.assertIn(type(node).__name__, ALLOWED_NODES, where)

    def test_single_forms(self):
        for where, node in nodes(ast.Assign):
            self.assertEqual(len(node.targets), 1, where)
        for where, node in nodes((ast.For, ast.While)):
            self.assertEqual(node.orelse, [], where)
        for where, node in nodes(ast.ListComp):
            self.assertTrue(len(node.generators) == 1 and len(node.generators[0].ifs) <= 1, where)
        for where, node in nodes(ast.FormattedValue):
            self.assertIsInstance(node.value, ast.Name, where)
        for where, node in nodes(ast.Try):
            self.assertEqual(node.finalbody, [], where)
        for where, node in nodes(ast.Constant):
            self.assertIsInstance(node.value, (int, str, bool, type(None)), where)
        for where, node in nodes(ast.Compare):
            if any(isinstance(op, (ast.Is, ast.IsNot)) for op in node.ops):
                self.assertTrue(isinstance(node.comparators[0], ast.Constant), where)

    def test_functions_and_classes(self):
        for where, node in nodes(ast.FunctionDef):
            given = node.args
            self.assertFalse(node.decorator_list or given.vararg or given.kwarg or given.kwonlyargs, where)
            self.assertIsNone(node.returns, where)
        for where, node in nodes(ast.ClassDef):
            self.assertFalse(node.decorator_list or node.keywords or len(node.bases) > 1, where)
            for inner in node.body:
                self.assertTrue(isinstance(inner, ast.FunctionDef) or is_docstring(inner), where)

    def test_no_name_is_a_method_here_and_a_value_there(self):
        methods = {inner.name for where, node in nodes(ast.ClassDef) for inner in node.body
                   if isinstance(inner, ast.FunctionDef)}
        stored = {node.attr for where, node in nodes(ast.Attribute) if isinstance(node.ctx, ast.Store)}
        self.assertEqual(methods & stored, set())
        self.assertEqual(stored & PYTHONS_OWN, set())
        for where, node in nodes(ast.Call):
            if isinstance(node.func, ast.Attribute):
                self.assertIn(node.func.attr, methods | ALLOWED_METHODS, where)

    def test_some_are_walked_at_once(self):
        for file in FILES:
            tree = tree_of(file)
            walked = [node.iter for node in ast.walk(tree) if isinstance(node, (ast.For, ast.comprehension))]
            for node in ast.walk(tree):
                if isinstance(node, ast.Call) and isinstance(node.func, ast.Name) and node.func.id in WALKERS:
                    walked.extend(node.args)
            for node in ast.walk(tree):
                if isinstance(node, ast.Call) and isinstance(node.func, ast.Name) and node.func.id in WALKED_AT_ONCE:
                    self.assertIn(node, walked, f"{file.name}:{node.lineno}")


class Names(unittest.TestCase):
    def test_names_are_plain_and_pythons_own_stay_as_they_are(self):
        for file in FILES:
            tree = tree_of(file)
            fixed = {name.name for node in tree.body if isinstance(node, ast.ImportFrom) for name in node.names}
            fixed |= {node.name for node in tree.body if isinstance(node, ast.ClassDef)}
            for node in ast.walk(tree):
                where = f"{file.name}:{getattr(node, 'lineno', 0)}"
                bound = None
                if isinstance(node, ast.arg):
                    bound = node.arg
                elif isinstance(node, ast.Name) and isinstance(node.ctx, ast.Store):
                    bound = node.id
                elif isinstance(node, ast.Name) and hasattr(builtins, node.id):
                    self.assertIn(node.id, ALLOWED_BUILTINS, where)
                elif isinstance(node, ast.Attribute):
                    self.assertFalse(node.attr.startswith("_") or node.attr in UNUSED_NAMES, where)
                if bound is not None:
                    self.assertRegex(bound, r"^[A-Za-z][A-Za-z0-9_]*$", where)
                    self.assertFalse(hasattr(builtins, bound) or bound in fixed | UNUSED_NAMES, where)


if __name__ == "__main__":
    unittest.main()
