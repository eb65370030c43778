"""The form of the package's code: what of ../shared/LANGUAGE.md can be seen in the syntax tree."""

import ast
import builtins
import functools
import io
import keyword
import pathlib
import re
import tokenize
import unittest

ROOT = pathlib.Path(__file__).resolve().parent.parent
PACKAGE = ROOT / "anywide"

BUILTINS = set(
    "len range enumerate zip min max sum abs sorted reversed int str bool bytes list tuple dict set frozenset"
    " isinstance ord repr any all divmod iter next Exception ValueError TypeError KeyError IndexError LookupError"
    " ZeroDivisionError ArithmeticError OverflowError RuntimeError NotImplementedError AttributeError StopIteration"
    " NotImplemented".split()
)
METHODS = set(
    "append clear copy count endswith extend find get index insert isalnum isalpha isdigit islower isspace isupper"
    " items join keys ljust lower lstrip partition pop remove replace reverse rfind rjust rpartition rsplit rstrip"
    " setdefault split splitlines startswith strip update upper values zfill bit_length title capitalize swapcase"
    " casefold center expandtabs removeprefix removesuffix rindex isascii isdecimal isnumeric istitle isidentifier"
    " isprintable translate sort add discard".split()
)
STATEMENTS = (
    ast.Assign, ast.AugAssign, ast.AnnAssign, ast.If, ast.While, ast.For, ast.Return, ast.Break, ast.Continue, ast.Pass,
    ast.Raise, ast.Assert, ast.Delete, ast.Nonlocal, ast.Match, ast.With, ast.Try, ast.Expr, ast.FunctionDef,
    ast.ClassDef, ast.ImportFrom,
)
BARRED_WORDS = set(
    "type typing typing_extensions enum Enum IntEnum StrEnum Flag IntFlag Generic Protocol ABC ABCMeta namedtuple"
    " NamedTuple TypedDict TYPE_CHECKING abstractmethod".split()
)
BARRED_PARTS = ("dataclass", "overload", "contextmanager")
BARRED_NAMES = set(
    "register mro elements open input version_info with_traceback add_note attrgetter breakpoint builtins compile"
    " copyright credits delattr dir eval exec exit gc getattr globals hasattr help id importlib license locals"
    " methodcaller os quit setattr super type vars sys chr print".split()
)
DUNDERS = {"__init__", "__iter__", "__len__", "__eq__", "__repr__", "__str__", "__call__"}


@functools.lru_cache
def sources():
    return {path: path.read_text("utf-8") for path in sorted(PACKAGE.glob("*.py"))}


@functools.lru_cache
def trees():
    return {path: ast.parse(text) for path, text in sources().items()}


def nodes():
    return [(path, node) for path, tree in trees().items() for node in ast.walk(tree)]


def defined(tree):
    """The names that a module itself binds, without its imports."""
    names = []
    for node in tree.body:
        if isinstance(node, (ast.FunctionDef, ast.ClassDef)):
            names.append(node.name)
        elif isinstance(node, (ast.Assign, ast.AnnAssign)):
            targets = node.targets if isinstance(node, ast.Assign) else [node.target]
            names.extend(target.id for target in targets)
    return names


def imported(tree):
    return [(node.module, alias.name) for node in tree.body if isinstance(node, ast.ImportFrom) for alias in node.names]


class Form(unittest.TestCase):
    def spot(self, path, node):
        return f"{path.name}:{getattr(node, 'lineno', '?')}"

    def test_files(self):
        for path in PACKAGE.rglob("*"):
            if "__pycache__" not in path.parts:
                self.assertRegex(path.name, r"^[a-z_][a-z0-9_]*\.py$")
                self.assertEqual(path.parent, PACKAGE)
                self.assertFalse(path.stem in vars(builtins) or keyword.iskeyword(path.stem), path)
        self.assertIn(PACKAGE / "__init__.py", sources())

    def test_signs_lines_and_lengths(self):
        for path, text in sources().items():
            self.assertRegex(text, r"\A[ -~\n]*\Z", path)
            lines = text.split("\n")
            self.assertLessEqual(len(lines), 400, path)
            self.assertLessEqual(max(map(len, lines)), 120, path)
        for path, node in nodes():
            if isinstance(node, ast.FunctionDef):
                self.assertLessEqual(node.end_lineno - node.lineno + 1, 40, self.spot(path, node))

    def test_words_that_do_not_occur(self):
        for path, text in sources().items():
            self.assertEqual(set(re.findall(r"\w+", text)) & BARRED_WORDS, set(), path)
            for part in BARRED_PARTS:
                self.assertNotIn(part, text, path)

    def test_module_level(self):
        for path, tree in trees().items():
            body = tree.body[1:] if ast.get_docstring(tree) is not None else tree.body
            kinds = [isinstance(node, ast.ImportFrom) for node in body]
            self.assertEqual(kinds, sorted(kinds, reverse=True), f"{path}: imports stand at the top")
            for node in body:
                fit = (ast.ImportFrom, ast.FunctionDef, ast.ClassDef, ast.Assign, ast.AnnAssign)
                self.assertIsInstance(node, fit, self.spot(path, node))
            names = defined(tree) + [name for module, name in imported(tree)]
            self.assertEqual(len(names), len(set(names)), f"{path}: each name is bound once")
            self.assertEqual(set(names) & set(dir(builtins)), set(), path)

    def test_imports(self):
        for path, node in nodes():
            self.assertNotIsInstance(node, ast.Import, self.spot(path, node))
        made = {f"anywide.{path.stem}": defined(tree) for path, tree in trees().items()}
        uses = {f"anywide.{path.stem}": imported(tree) for path, tree in trees().items()}
        for module, wanted in uses.items():
            for source, name in wanted:
                self.assertIn(name, made.get(source, []), f"{module} imports {name}")
        ended = set()
        while len(ended) < len(uses):
            free = {m for m, wanted in uses.items() if m not in ended and {source for source, name in wanted} <= ended}
            self.assertTrue(free, "some files import from each other")
            ended |= free

    def test_statements_and_expressions(self):
        barred = (ast.Div, ast.MatMult, ast.AsyncFunctionDef, ast.AsyncFor, ast.AsyncWith, ast.Await, ast.Global)
        for path, node in nodes():
            spot = self.spot(path, node)
            self.assertNotIsInstance(node, barred, spot)
            if isinstance(node, ast.stmt):
                self.assertIsInstance(node, STATEMENTS, spot)
            if isinstance(node, ast.Constant):
                self.assertIsInstance(node.value, (int, str, bytes, bool, type(None)), spot)
            if isinstance(node, ast.BinOp) and isinstance(node.op, ast.Pow):
                self.assertIsInstance(node.right, ast.Constant, spot)
            if isinstance(node, ast.Compare) and any(isinstance(op, (ast.Is, ast.IsNot)) for op in node.ops):
                self.assertTrue(all(isinstance(side, ast.Constant) for side in node.comparators), spot)

    def test_functions(self):
        for path, node in nodes():
            if isinstance(node, ast.FunctionDef):
                self.assertEqual(node.decorator_list, [], self.spot(path, node))
                self.assertEqual(node.args.posonlyargs, [], self.spot(path, node))

    def test_names(self):
        made = {name for tree in trees().values() for name in defined(tree)}
        for path, node in nodes():
            spot = self.spot(path, node)
            names = []
            if isinstance(node, ast.Name):
                names.append(node.id)
                if isinstance(node.ctx, ast.Store):
                    self.assertFalse(hasattr(builtins, node.id), spot)
                elif hasattr(builtins, node.id):
                    self.assertIn(node.id, BUILTINS, spot)
            elif isinstance(node, ast.arg):
                names.append(node.arg)
                self.assertFalse(hasattr(builtins, node.arg), spot)
                self.assertNotIn(node.arg, {name for module, name in imported(trees()[path])}, spot)
            elif isinstance(node, (ast.FunctionDef, ast.ClassDef)):
                names.append(node.name)
            for name in names:
                self.assertNotIn(name, BARRED_NAMES, spot)
                self.assertTrue(re.fullmatch(r"[A-Za-z][A-Za-z0-9_]*", name) or name in DUNDERS, spot)
            if isinstance(node, ast.ClassDef):
                self.assertEqual(node.decorator_list, [], spot)
                for base in node.bases:
                    self.assertIn(base.id, made | {"ValueError"}, spot)

    def test_local_names_are_no_imports_and_no_classes_of_their_file(self):
        for path, tree in trees().items():
            taken = {name for module, name in imported(tree)}
            taken |= {node.name for node in tree.body if isinstance(node, ast.ClassDef)}
            for node in ast.walk(tree):
                if isinstance(node, ast.Name) and isinstance(node.ctx, ast.Store):
                    self.assertNotIn(node.id, taken, self.spot(path, node))

    def test_no_name_is_a_method_here_and_an_attribute_there(self):
        methods, attributes = set(), set()
        for path, node in nodes():
            if isinstance(node, ast.ClassDef):
                methods |= {part.name for part in node.body if isinstance(part, ast.FunctionDef)}
            elif isinstance(node, ast.Attribute) and isinstance(node.ctx, ast.Store):
                attributes.add(node.attr)
        self.assertEqual(methods & attributes, set())
        self.assertLessEqual({"tell", "forget", "back", "row", "names", "kinds", "say"}, methods)

    def test_methods_of_builtin_values(self):
        own = {
            part.name for path, node in nodes() if isinstance(node, ast.ClassDef)
            for part in node.body if isinstance(part, ast.FunctionDef)
        }
        for path, node in nodes():
            if isinstance(node, ast.Call) and isinstance(node.func, ast.Attribute):
                self.assertIn(node.func.attr, METHODS | own | {"__init__"}, self.spot(path, node))

    def test_strings(self):
        for path, text in sources().items():
            for token in tokenize.generate_tokens(io.StringIO(text).readline):
                if token.type == tokenize.STRING:
                    self.assertNotIn(chr(37), token.string, f"{path.name}:{token.start[0]}")
                    for sign in re.findall(r"\\(.)", token.string, re.DOTALL):
                        self.assertIn(sign, "nt\\'\"", f"{path.name}:{token.start[0]}")


if __name__ == "__main__":
    unittest.main()
