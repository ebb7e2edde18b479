"""Those rules of the language of the package that a file's text can show."""

import ast
import builtins
import pathlib
import re
import unittest

PACKAGE = pathlib.Path(__file__).resolve().parent.parent / "cloak"
FILES = sorted(path for path in PACKAGE.rglob("*.py"))
TREES = {path: ast.parse(path.read_text(encoding="utf-8")) for path in FILES}

BUILTINS = set("""len range enumerate zip min max sum abs sorted reversed int str bool list
    tuple dict set isinstance ord repr any all divmod map iter next Exception ValueError
    TypeError KeyError IndexError LookupError ZeroDivisionError""".split())
BARRED_NAMES = set("""register mro elements open input law version_info with_traceback add_note
    attrgetter breakpoint builtins compile copyright credits delattr dir eval exec exit gc
    globals help id importlib license locals methodcaller os quit super sys vars""".split())
BARRED_WORDS = re.compile(r"\b(type|typing|typing_extensions|enum|Enum|IntEnum|StrEnum|Flag|IntFlag"
                          r"|Generic|Protocol|ABC|ABCMeta|namedtuple|NamedTuple|TypedDict"
                          r"|TYPE_CHECKING|abstractmethod)\b|dataclass|overload|contextmanager")
LIBRARY = {"heapq": {"heappush", "heappop", "heapify", "heapreplace", "heappushpop"},
           "math": {"gcd", "lcm", "isqrt", "comb", "perm", "factorial"},
           "itertools": {"product", "combinations", "permutations", "chain", "accumulate",
                         "pairwise", "islice", "zip_longest"},
           "collections": {"defaultdict", "deque"}}
METHODS = set("""append clear copy count endswith extend find get index insert isalnum isalpha
    isdigit islower isspace isupper items join keys ljust lower lstrip partition pop remove replace
    reverse rfind rjust rpartition rsplit rstrip setdefault split splitlines startswith strip update
    upper values zfill bit_length isascii isdecimal isnumeric removeprefix removesuffix""".split())
BARRED_ATTRIBUTES = set("""items keys values pop update append clear extend insert remove reverse
    setdefault sort args encode decode hex fromhex format format_map mro""".split())
BARRED_NODES = (ast.AsyncFunctionDef, ast.AsyncFor, ast.AsyncWith, ast.Await, ast.Div,
                ast.MatMult, ast.Import, ast.TryStar)
MODULE_LEVEL = (ast.ImportFrom, ast.FunctionDef, ast.ClassDef, ast.Assign, ast.Expr)
NAMED = (ast.FunctionDef, ast.ClassDef)


def nodes(kind):
    """All nodes of a kind, with the file and line as a text."""
    for path, tree in TREES.items():
        for node in ast.walk(tree):
            if isinstance(node, kind):
                yield f"{path.name}:{getattr(node, 'lineno', 0)}", node


def bound_names(tree):
    """Names that functions of a file bind: parameters, variables, nested functions."""
    for function in ast.walk(tree):
        if isinstance(function, (ast.FunctionDef, ast.Lambda)):
            for node in ast.walk(function):
                if isinstance(node, ast.Name) and not isinstance(node.ctx, ast.Load):
                    yield node.id
                elif isinstance(node, ast.arg):
                    yield node.arg
                elif isinstance(node, ast.FunctionDef) and node is not function:
                    yield node.name


def top_names(tree):
    """Names that a file binds at module level, each as often as it binds it."""
    for node in tree.body:
        if isinstance(node, NAMED):
            yield node.name
        elif isinstance(node, ast.Assign):
            yield from (target.id for target in node.targets)
        elif isinstance(node, ast.ImportFrom):
            yield from (alias.name for alias in node.names)


class FilesTest(unittest.TestCase):

    def test_files_and_characters(self):
        self.assertIn(PACKAGE / "__init__.py", FILES)
        for path in PACKAGE.rglob("*"):
            if "__pycache__" not in path.parts:
                self.assertRegex(path.name, r"\A[a-z0-9_]+\.py\Z")
        for path in FILES:
            text = path.read_text(encoding="utf-8")
            self.assertRegex(text, r"\A[ -~\n]*\Z", path.name)

    def test_sizes(self):
        for path in FILES:
            lines = path.read_text(encoding="utf-8").split("\n")
            self.assertLessEqual(len(lines), 399, path.name)
            self.assertLessEqual(max(map(len, lines)), 120, path.name)
        for place, node in nodes(ast.FunctionDef):
            self.assertLessEqual(node.end_lineno - node.lineno + 1, 40, place)


class ImportsTest(unittest.TestCase):

    def test_imports_name_the_file_that_defines_the_name(self):
        for place, node in nodes(ast.ImportFrom):
            self.assertEqual(node.level, 0, place)
            self.assertTrue(all(alias.asname is None for alias in node.names), place)
            names = {alias.name for alias in node.names}
            if node.module in LIBRARY:
                self.assertLessEqual(names, LIBRARY[node.module], place)
                continue
            self.assertRegex(node.module, r"\Acloak(\.[a-z_]+)+\Z", place)
            tree = TREES[PACKAGE.parent / (node.module.replace(".", "/") + ".py")]
            own = [top for top in tree.body if not isinstance(top, ast.ImportFrom)]
            self.assertLessEqual(names, set(top_names(ast.Module(own, []))), place)

    def test_no_circles(self):
        wanted = {"cloak." + path.stem: {node.module for node in ast.walk(tree)
                                         if isinstance(node, ast.ImportFrom)}
                  for path, tree in TREES.items()}
        done = set()
        while set(wanted) - done:
            ready = [name for name in wanted if name not in done
                     and not (wanted[name] & set(wanted)) - done]
            self.assertTrue(ready, sorted(set(wanted) - done))
            done.update(ready)


class NamesTest(unittest.TestCase):

    def test_module_level(self):
        for path, tree in TREES.items():
            for node in tree.body:
                self.assertIsInstance(node, MODULE_LEVEL, path.name)
                if isinstance(node, ast.Expr):
                    self.assertIs(node, tree.body[0], path.name)
            names = list(top_names(tree))
            self.assertEqual(len(names), len(set(names)), path.name)

    def test_no_name_has_two_meanings(self):
        for path, tree in TREES.items():
            inside = set(bound_names(tree))
            self.assertFalse(inside & set(top_names(tree)), path.name)
            self.assertFalse((inside | set(top_names(tree))) & set(dir(builtins)), path.name)

    def test_plain_names_and_none_that_is_barred(self):
        for place, node in nodes((ast.Name, ast.arg, ast.Attribute, ast.FunctionDef, ast.ClassDef)):
            name = [getattr(node, field) for field in ("id", "arg", "attr", "name")
                    if hasattr(node, field)][0]
            self.assertNotIn(name, BARRED_NAMES, place)
            if not isinstance(node, ast.FunctionDef):
                self.assertRegex(name, r"\A(_|_?[A-Za-z][A-Za-z0-9_]*)\Z", place)

    def test_only_the_listed_builtins(self):
        for place, node in nodes(ast.Name):
            if node.id in dir(builtins):
                self.assertIn(node.id, BUILTINS, place)

    def test_barred_words(self):
        for path, tree in TREES.items():
            code = ast.unparse(WithoutDocstrings().visit(ast.parse(ast.unparse(tree))))
            self.assertIsNone(BARRED_WORDS.search(code), path.name)


class ClassesTest(unittest.TestCase):

    def setUp(self):
        self.methods = {part.name for _, owner in nodes(ast.ClassDef) for part in owner.body
                        if isinstance(part, ast.FunctionDef)}
        self.attributes = {node.attr for _, node in nodes(ast.Attribute) if isinstance(node.ctx, ast.Store)}

    def test_a_class_has_methods_alone_and_each_once(self):
        for place, owner in nodes(ast.ClassDef):
            parts = [part for part in owner.body if not isinstance(part, ast.Expr)]
            self.assertTrue(all(isinstance(part, ast.FunctionDef) for part in parts), place)
            names = [part.name for part in parts]
            self.assertEqual(len(names), len(set(names)), place)
            for name in names:
                self.assertTrue(name == "__init__" or not name.startswith("__"), place)

    def test_no_name_is_a_method_and_an_attribute(self):
        self.assertFalse(self.methods & self.attributes)
        self.assertFalse(self.attributes & (BARRED_ATTRIBUTES | set(dir(builtins))))

    def test_only_own_methods_and_the_listed_ones_are_called(self):
        called = [(place, node.func) for place, node in nodes(ast.Call) if isinstance(node.func, ast.Attribute)]
        for place, function in called:
            self.assertIn(function.attr, METHODS | self.methods, place)
        functions = {id(function) for _, function in called}
        for place, node in nodes(ast.Attribute):
            if id(node) not in functions:
                self.assertIn(node.attr, self.attributes | self.methods, place)

    def test_sets_stand_only_where_they_are_measured_or_sorted(self):
        allowed = {id(node.args[0]) for _, node in nodes(ast.Call)
                   if isinstance(node.func, ast.Name) and node.func.id in ("len", "sorted") and node.args}
        for place, node in nodes((ast.Set, ast.SetComp, ast.Call)):
            if not isinstance(node, ast.Call) or isinstance(node.func, ast.Name) and node.func.id == "set":
                self.assertIn(id(node), allowed, place)


class WithoutDocstrings(ast.NodeTransformer):

    def visit_Expr(self, node):
        return ast.Pass() if isinstance(node.value, ast.Constant) else node


class ExpressionsTest(unittest.TestCase):

    def test_no_barred_statement_or_sign(self):
        for place, node in nodes(BARRED_NODES):
            self.fail(f"{place}: {type(node).__name__}")
        for place, node in nodes(ast.Constant):
            self.assertNotIsInstance(node.value, (float, complex, bytes), place)
            if isinstance(node.value, str):
                self.assertNotIn("%", node.value, place)

    def test_no_decorator_over_a_function_or_class_at_module_level(self):
        for path, tree in TREES.items():
            for node in tree.body:
                self.assertFalse(getattr(node, "decorator_list", []), path.name)

    def test_exponents_are_literal(self):
        for place, node in nodes(ast.BinOp):
            if isinstance(node.op, ast.Pow):
                self.assertIsInstance(node.right, ast.Constant, place)
                self.assertIn(node.right.value, range(65), place)

    def test_is_stands_beside_none_true_and_false(self):
        for place, node in nodes(ast.Compare):
            if any(isinstance(op, (ast.Is, ast.IsNot)) for op in node.ops):
                other = node.comparators[0]
                self.assertIsInstance(other, ast.Constant, place)
                self.assertIn(repr(other.value), ("None", "True", "False"), place)

    def test_generator_expressions_stand_directly_in_a_call(self):
        allowed = {"list", "tuple", "dict", "sorted", "sum", "min", "max", "any", "all"}
        inside = {id(node.args[0]) for _, node in nodes(ast.Call)
                  if node.args and isinstance(node.func, ast.Name) and node.func.id in allowed}
        for place, node in nodes(ast.GeneratorExp):
            self.assertIn(id(node), inside, place)

    def test_errors_are_raised_by_the_name_of_a_class(self):
        for place, node in nodes(ast.Raise):
            if node.exc is not None:
                self.assertIsInstance(node.exc, ast.Call, place)
                self.assertIsInstance(node.exc.func, ast.Name, place)


if __name__ == "__main__":
    unittest.main()
