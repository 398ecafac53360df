"""The form of the package: the rules of the language that can be told from the code alone."""

import ast
import builtins
import pathlib
import re
import unittest

PACKAGE = pathlib.Path(__file__).resolve().parent.parent / "lookundone"
FILES = sorted(PACKAGE.glob("*.py"))
ALLOWED_BUILTINS = set(
    "len range enumerate zip min max sum abs sorted reversed int str bool list tuple dict set isinstance ord repr "
    "any all divmod ValueError KeyError".split()
)
ALLOWED_METHODS = set(
    "append clear copy count endswith extend find get index insert isalnum isalpha isdigit islower isspace isupper "
    "items join keys ljust lower lstrip partition pop remove replace reverse rfind rjust rpartition rsplit rstrip "
    "setdefault split splitlines startswith strip update upper values zfill bit_length add discard".split()
)
BARRED_NAMES = set(
    "register mro elements open input law version_info with_traceback add_note attrgetter breakpoint builtins compile "
    "copyright credits delattr dir eval exec exit gc getattr globals hasattr help id importlib license locals "
    "methodcaller os quit setattr super type vars sys".split()
)
BARRED_WORDS = (
    "type typing typing_extensions enum Enum IntEnum StrEnum Flag IntFlag Generic Protocol ABC ABCMeta namedtuple "
    "NamedTuple TypedDict TYPE_CHECKING abstractmethod _wall _WallAttr".split()
)
ON_THE_SPOT = ("zip", "enumerate", "reversed", "range")
TAKERS = ("list", "tuple", "dict", "sorted", "sum", "any", "all", "enumerate", "zip", "min", "max", "len")


def trees():
    for path in FILES:
        yield path, ast.parse(path.read_text(encoding="ascii"))


def with_parents(tree):
    """All nodes of the tree, each of which gets its parent."""
    for node in ast.walk(tree):
        for inner in ast.iter_child_nodes(node):
            inner.parent = node
    return ast.walk(tree)


def is_plain_value(node, functions):
    if isinstance(node, ast.Constant):
        return not isinstance(node.value, float)
    if isinstance(node, ast.UnaryOp):
        return isinstance(node.op, ast.USub) and is_plain_value(node.operand, functions)
    if isinstance(node, (ast.Tuple, ast.List)):
        return all(is_plain_value(part, functions) for part in node.elts)
    if isinstance(node, ast.Dict):
        return all(is_plain_value(part, functions) for part in node.keys + node.values)
    return isinstance(node, ast.Name) and node.id in functions


def bound_names(tree):
    """All names that are parameters, targets, functions or classes."""
    for node in ast.walk(tree):
        if isinstance(node, ast.arg):
            yield node.arg
        elif isinstance(node, ast.Name) and not isinstance(node.ctx, ast.Load):
            yield node.id
        elif isinstance(node, (ast.FunctionDef, ast.ClassDef)):
            yield node.name
        elif isinstance(node, ast.ExceptHandler) and node.name:
            yield node.name


class FormTest(unittest.TestCase):
    def test_files(self):
        self.assertLessEqual(len(FILES), 100)
        inside = [path for path in PACKAGE.iterdir() if path.name != "__pycache__"]
        self.assertEqual(sorted(inside), FILES)
        for path in FILES:
            self.assertRegex(path.name, r"^([a-z][a-z0-9_]*|__init__)\.py$")
            text = path.read_text(encoding="utf-8")
            self.assertRegex(text, r"^[ -~\n]*\Z", path.name)
            lines = text.split("\n")
            self.assertLessEqual(len(lines) - 1, 399, path.name)
            self.assertTrue(all(len(line) <= 120 for line in lines), path.name)
            self.assertTrue(text.endswith("\n") and not text.endswith("\n\n"), path.name)

    def test_sizes_of_functions(self):
        for path, tree in trees():
            for node in ast.walk(tree):
                if isinstance(node, ast.FunctionDef):
                    self.assertLessEqual(node.end_lineno - node.lineno + 1, 40, (path.name, node.name))
                    self.assertEqual(node.decorator_list, [], (path.name, node.name))
                    self.assertTrue(ast.get_docstring(node) or node.name == "__init__", (path.name, node.name))

    def test_imports(self):
        defined = {}
        wanted = {}
        for path, tree in trees():
            defined[path.stem] = [node.name for node in tree.body if isinstance(node, (ast.FunctionDef, ast.ClassDef))]
            for node in tree.body:
                if isinstance(node, ast.Assign):
                    defined[path.stem].append(node.targets[0].id)
        for path, tree in trees():
            wanted[path.stem] = []
            for node in ast.walk(tree):
                self.assertNotIsInstance(node, ast.Import, path.name)
                if isinstance(node, ast.ImportFrom):
                    package, _, module = node.module.partition(".")
                    self.assertEqual((package, node.level), ("lookundone", 0), path.name)
                    self.assertIn(node, tree.body)
                    wanted[path.stem].append(module)
                    for alias in node.names:
                        self.assertIsNone(alias.asname)
                        self.assertIn(alias.name, defined[module], (path.name, alias.name))
        while wanted:
            free = [name for name in wanted if not any(other in wanted for other in wanted[name])]
            self.assertTrue(free, ("a ring of imports", wanted))
            for name in free:
                del wanted[name]

    def test_module_level(self):
        for path, tree in trees():
            names = []
            functions = []
            for k, node in enumerate(tree.body):
                if isinstance(node, ast.Expr):
                    self.assertTrue(k == 0 and isinstance(node.value, ast.Constant), path.name)
                elif isinstance(node, ast.ImportFrom):
                    names.extend(alias.name for alias in node.names)
                elif isinstance(node, (ast.FunctionDef, ast.ClassDef)):
                    names.append(node.name)
                    functions.append(node.name)
                else:
                    self.assertIsInstance(node, ast.Assign, path.name)
                    self.assertEqual(len(node.targets), 1)
                    self.assertIsInstance(node.targets[0], ast.Name)
                    names.append(node.targets[0].id)
                    self.assertTrue(is_plain_value(node.value, functions), (path.name, node.lineno))
            self.assertEqual(len(names), len(set(names)), path.name)

    def test_names(self):
        for path, tree in trees():
            kept = [alias.name for node in tree.body if isinstance(node, ast.ImportFrom) for alias in node.names]
            kept += [node.name for node in tree.body if isinstance(node, ast.ClassDef)]
            for name in bound_names(tree):
                if name == "__init__":
                    continue
                self.assertRegex(name, r"^(_|_?[A-Za-z][A-Za-z0-9_]*)$", path.name)
                self.assertFalse(hasattr(builtins, name), (path.name, name))
                self.assertNotIn(name, BARRED_NAMES, path.name)
            for node in ast.walk(tree):
                if isinstance(node, ast.FunctionDef):
                    for name in bound_names(ast.Module(body=[*node.args.args, *node.body], type_ignores=[])):
                        self.assertNotIn(name, kept, (path.name, node.name))
                if isinstance(node, ast.Name) and isinstance(node.ctx, ast.Load):
                    self.assertNotEqual(node.id, "_", path.name)
                    if hasattr(builtins, node.id):
                        self.assertIn(node.id, ALLOWED_BUILTINS, (path.name, node.lineno))

    def test_words_and_strings(self):
        for path, tree in trees():
            text = path.read_text(encoding="ascii")
            docstrings = [
                node.body[0].value
                for node in ast.walk(tree)
                if isinstance(node, (ast.Module, ast.FunctionDef, ast.ClassDef)) and ast.get_docstring(node)
            ]
            for node in ast.walk(tree):
                if isinstance(node, ast.Constant) and isinstance(node.value, str) and node not in docstrings:
                    self.assertNotIn("%", node.value, (path.name, node.lineno))
                    self.assertFalse(node.value.startswith("__") or node.value.endswith(("._", "__")), path.name)
            bare = re.sub(r'"""(.|\n)*?"""', "", text)
            bare = re.sub(r"#.*", "", bare)
            for word in BARRED_WORDS:
                self.assertNotRegex(bare, rf"\b{word}\b", path.name)
            for escape in re.findall(r"\\(.)", text):
                self.assertIn(escape, 'nt\\"\'', path.name)

    def test_statements_and_signs(self):
        barred = (
            ast.AsyncFunctionDef, ast.Global, ast.Await, ast.Set, ast.SetComp, ast.Div, ast.MatMult, ast.Pow, ast.Yield,
            ast.YieldFrom, ast.NamedExpr, ast.AnnAssign, ast.Lambda, ast.Nonlocal, ast.With, ast.Delete, ast.Match,
        )
        for path, tree in trees():
            for node in ast.walk(tree):
                self.assertNotIsInstance(node, barred, (path.name, getattr(node, "lineno", 0)))
                if isinstance(node, ast.Constant):
                    self.assertNotIsInstance(node.value, (float, complex, bytes), path.name)
                if isinstance(node, ast.Compare):
                    for sign, other in zip(node.ops, node.comparators):
                        if isinstance(sign, (ast.Is, ast.IsNot)):
                            self.assertIsInstance(other, ast.Constant, (path.name, node.lineno))
                if isinstance(node, ast.ExceptHandler):
                    self.assertIsInstance(node.type, ast.Name, path.name)
                    self.assertFalse(hasattr(builtins, node.type.id), path.name)
                if isinstance(node, ast.Raise):
                    self.assertIsInstance(node.exc, ast.Call, path.name)
                    self.assertIsInstance(node.exc.func, ast.Name, path.name)
                    self.assertEqual(node.exc.keywords, [], path.name)

    def test_methods(self):
        own = {
            node.name
            for _, tree in trees()
            for outer in ast.walk(tree)
            if isinstance(outer, ast.ClassDef)
            for node in outer.body
            if isinstance(node, ast.FunctionDef)
        }
        for path, tree in trees():
            for node in ast.walk(tree):
                if isinstance(node, ast.Call) and isinstance(node.func, ast.Attribute):
                    self.assertIn(node.func.attr, ALLOWED_METHODS | own, (path.name, node.lineno))
                    if node.func.attr not in own:
                        self.assertEqual(node.keywords, [], (path.name, node.lineno))

    def test_iterated_on_the_spot(self):
        for path, tree in trees():
            for node in with_parents(tree):
                if not isinstance(node, ast.Call):
                    continue
                parent = node.parent
                if isinstance(node.func, ast.Name) and node.func.id in ON_THE_SPOT:
                    is_bare = True
                else:
                    is_bare = isinstance(node.func, ast.Attribute) and node.func.attr in ("items", "keys", "values")
                if is_bare:
                    is_head = isinstance(parent, (ast.For, ast.comprehension)) and parent.iter is node
                    is_taken = isinstance(parent, ast.Call) and getattr(parent.func, "id", "") in TAKERS
                    # L23 lets a range be kept in a local variable.
                    is_kept = node.func.id == "range" if isinstance(node.func, ast.Name) else False
                    is_kept = is_kept and isinstance(parent, ast.Assign)
                    self.assertTrue(is_head or is_taken or is_kept, (path.name, node.lineno))
                if isinstance(node.func, ast.Name) and node.func.id == "set":
                    is_measured = isinstance(parent, ast.Call) and parent.func.id in ("len", "sorted")
                    self.assertTrue(is_measured, (path.name, node.lineno))

    def test_generator_expressions(self):
        takers = ("list", "tuple", "dict", "sorted", "sum", "min", "max", "any", "all")
        for path, tree in trees():
            for node in with_parents(tree):
                if isinstance(node, ast.GeneratorExp):
                    function = node.parent.func
                    is_join = isinstance(function, ast.Attribute) and function.attr == "join"
                    is_join = is_join and isinstance(function.value, ast.Constant)
                    self.assertTrue(is_join or function.id in takers, (path.name, node.lineno))
