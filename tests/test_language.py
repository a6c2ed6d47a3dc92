"""Many of the rules of the part of Python that the package's own files keep to; not all of them are checked here."""

import ast
import builtins
import pathlib
import re
import unittest

PACKAGE = pathlib.Path(__file__).resolve().parent.parent / "freecharge"

ERRORS = """Exception ValueError TypeError KeyError IndexError LookupError ZeroDivisionError ArithmeticError
OverflowError RuntimeError NotImplementedError AttributeError StopIteration""".split()
OWN_NAMES = """len range enumerate zip min max sum abs sorted reversed int str bool list tuple dict set frozenset
isinstance ord repr any all divmod""".split() + ERRORS
METHODS = """append clear copy count endswith extend find get index insert isalnum isalpha isdigit islower isspace
isupper items join keys ljust lower lstrip partition pop remove replace reverse rfind rjust rpartition rsplit rstrip
setdefault split splitlines startswith strip update upper values zfill bit_length""".split()
SPECIAL = ["__init__", "__eq__", "__repr__", "__str__", "__len__"]
NEVER_NAMED = """register mro elements open input version_info with_traceback add_note format format_map attrgetter
breakpoint builtins compile copyright credits delattr dir eval exec exit gc getattr globals hasattr help id importlib
license locals methodcaller os quit setattr super type vars sys""".split()
NEVER_WRITTEN = """type typing typing_extensions enum Enum IntEnum StrEnum Flag IntFlag Generic Protocol ABC ABCMeta
namedtuple NamedTuple TypedDict TYPE_CHECKING abstractmethod""".split()
NEVER_WITHIN = ["dataclass", "overload", "contextmanager"]
NEVER_VALUES = """items keys values pop update append clear extend insert remove reverse setdefault sort args encode
format""".split()
FREE_METHODS = METHODS + ["add", "discard"]
FREE_VALUES = "count index title find get join lower upper split strip copy add".split()
TAKEN = sorted(set(dir(str)) | set(dir(int)) | set(dir(list)) | set(dir(dict)) | set(dir(set)) | set(dir(bytes)))

STATEMENTS = (ast.Assign, ast.AugAssign, ast.If, ast.While, ast.For, ast.Return, ast.Break, ast.Continue, ast.Pass,
              ast.Raise, ast.Try, ast.Expr, ast.FunctionDef, ast.ClassDef, ast.ImportFrom)
EXPRESSIONS = (ast.BinOp, ast.UnaryOp, ast.BoolOp, ast.Compare, ast.IfExp, ast.Call, ast.Attribute, ast.Subscript,
               ast.Slice, ast.ListComp, ast.JoinedStr, ast.FormattedValue, ast.Constant, ast.Name, ast.List,
               ast.Tuple, ast.Dict, ast.Set, ast.Lambda)
ON_THE_SPOT = ("zip", "enumerate", "reversed", "range", "items", "keys", "values")
WALKERS = ("list", "tuple", "dict", "sorted", "sum", "any", "all", "enumerate", "zip", "min", "max", "join")
NEVER_CAUGHT = """Exception TypeError ArithmeticError OverflowError RuntimeError NotImplementedError
AttributeError""".split()


def files():
    return sorted(path for path in PACKAGE.rglob("*") if "__pycache__" not in path.parts and path.is_file())


def parsed(path):
    tree = ast.parse(path.read_text(encoding="utf-8"))
    for node in ast.walk(tree):
        for child in ast.iter_child_nodes(node):
            child.parent = node
    return tree


def named(node):
    """The names that a node binds, reads or stands for."""
    if isinstance(node, ast.Name):
        return [node.id]
    if isinstance(node, ast.arg):
        return [node.arg]
    if isinstance(node, ast.Attribute):
        return [node.attr]
    if isinstance(node, (ast.FunctionDef, ast.ClassDef)):
        return [node.name]
    if isinstance(node, ast.alias):
        return [node.asname or node.name]
    if isinstance(node, ast.ExceptHandler) and node.name:
        return [node.name]
    return []


def bound_by(node):
    """The names that a statement of a file's top binds."""
    if isinstance(node, ast.Assign):
        return [target.id for target in node.targets]
    if isinstance(node, ast.ImportFrom):
        return [alias.asname or alias.name for alias in node.names]
    return [node.name] if isinstance(node, (ast.FunctionDef, ast.ClassDef)) else []


def file_of(node):
    """The file that an import draws from, as a path below the package's parent."""
    return node.module.replace(".", "/") + ".py"


def is_text(node):
    return isinstance(node, ast.Constant) and isinstance(node.value, str)


def is_plain_value(node):
    """A value that may stand at a file's top, with no list or dict within another."""
    if isinstance(node, (ast.List, ast.Tuple)):
        parts = node.elts
    elif isinstance(node, ast.Dict):
        parts = node.keys + node.values
    else:
        return isinstance(node, (ast.Constant, ast.Name)) or isinstance(node, ast.UnaryOp)
    return all(is_plain_value(part) and not isinstance(part, (ast.List, ast.Dict)) for part in parts)


def is_walked(node):
    """Whether what a call gives is walked where it stands."""
    if isinstance(node.parent, (ast.For, ast.comprehension)):
        return node.parent.iter is node
    return isinstance(node.parent, ast.Call) and named(node.parent.func)[0] in WALKERS


class Files(unittest.TestCase):
    def test_names(self):
        self.assertIn("__init__.py", [path.name for path in files()])
        for path in files():
            with self.subTest(path=path.name):
                self.assertRegex(path.name, r"^([a-z][a-z0-9_]*|__init__|__main__)\.py$")
                self.assertNotIn(path.stem, dir(builtins) + NEVER_WRITTEN + NEVER_WITHIN)
                self.assertNotRegex(path.stem, r"^(tests?|testing|test_.*|site|conftest|sitecustomize|usercustomize)$")

    def test_folders_have_an_init(self):
        for folder in {path.parent for path in files()}:
            self.assertTrue((folder / "__init__.py").exists(), folder)

    def test_signs_and_sizes(self):
        for path in files():
            text = path.read_bytes().decode("utf-8")
            lines = text.split("\n")
            with self.subTest(path=path.name):
                self.assertRegex(text, r"\A[ -~\n]*\Z")
                self.assertLessEqual(len(lines), 399)
                self.assertLessEqual(max(len(line) for line in lines), 120)

    def test_words_that_stand_nowhere(self):
        for path in files():
            text = path.read_text(encoding="utf-8")
            with self.subTest(path=path.name):
                self.assertEqual([word for word in NEVER_WRITTEN if re.search(rf"\b{word}\b", text)], [])
                self.assertEqual([word for word in NEVER_WITHIN if word in text], [])


class Code(unittest.TestCase):
    def setUp(self):
        self.trees = {path.relative_to(PACKAGE.parent).as_posix(): parsed(path) for path in files()}

    def each(self, *kinds):
        return [node for tree in self.trees.values() for node in ast.walk(tree) if isinstance(node, kinds)]

    def none(self, nodes):
        """Fails with the places of these nodes, if there are any."""
        places = []
        for path, tree in self.trees.items():
            inside = list(ast.walk(tree))
            places += [f"{path}:{getattr(node, 'lineno', '?')}" for node in nodes if node in inside]
        self.assertEqual((places, len(nodes)), ([], 0))

    def test_statements_and_expressions(self):
        self.none([node for node in self.each(ast.stmt) if not isinstance(node, STATEMENTS)])
        self.none([node for node in self.each(ast.expr) if not isinstance(node, EXPRESSIONS)])
        self.none([node for node in self.each(ast.BinOp, ast.AugAssign) if isinstance(node.op, (ast.Div, ast.MatMult))])
        self.none([node for node in self.each(ast.Constant) if isinstance(node.value, (float, bytes, complex))])
        self.none([node for node in self.each(ast.Expr)
                   if not isinstance(node.value, ast.Call) and not is_text(node.value)])

    def test_assignments_loops_and_tries(self):
        self.none([node for node in self.each(ast.Assign)
                   if len(node.targets) != 1 or isinstance(node.targets[0], (ast.Tuple, ast.List))])
        self.none([node for node in self.each(ast.For, ast.While) if node.orelse])
        self.none([node for node in self.each(ast.Try) if node.finalbody])
        self.none([node for node in self.each(ast.ListComp)
                   if len(node.generators) != 1 or len(node.generators[0].ifs) > 1])

    def test_functions(self):
        defs = self.each(ast.FunctionDef)
        self.none([node for node in defs if node.end_lineno - node.lineno + 1 > 40])
        self.none([node for node in defs if node.decorator_list or node.returns])
        self.none([node for node in defs
                   if node.args.vararg or node.args.kwarg or node.args.kwonlyargs or node.args.posonlyargs])
        self.none([node for node in defs if not all(isinstance(value, ast.Constant) for value in node.args.defaults)])
        self.none([node for node in self.each(ast.arg) if node.annotation])
        self.none([node for node in defs if node.name == "__init__" and
                   any(isinstance(part, ast.Return) and part.value for part in ast.walk(node))])

    def test_classes(self):
        classes = self.each(ast.ClassDef)
        self.none([node for node in classes if not isinstance(node.parent, ast.Module)])
        self.none([node for node in classes if node.decorator_list or node.keywords or len(node.bases) > 1])
        for node in classes:
            self.none([part for part in node.body if not isinstance(part, (ast.FunctionDef, ast.Expr))])
            methods = [part.name for part in node.body if isinstance(part, ast.FunctionDef)]
            self.assertEqual(len(methods), len(set(methods)), node.name)

    def test_file_tops(self):
        tops = [node for tree in self.trees.values() for node in tree.body]
        allowed = (ast.Expr, ast.ImportFrom, ast.Assign, ast.FunctionDef, ast.ClassDef)
        self.none([node for node in tops if not isinstance(node, allowed)])
        self.none([node for node in tops if isinstance(node, ast.Expr) and not is_text(node.value)])
        self.none([node for node in tops if isinstance(node, ast.Assign) and not is_plain_value(node.value)])
        for path, tree in self.trees.items():
            bound = [name for node in tree.body for name in bound_by(node)]
            self.assertEqual(len(bound), len(set(bound)), path)

    def test_names(self):
        self.none([node for node in self.each(ast.AST) for name in named(node)
                   if name not in SPECIAL and not re.fullmatch("[A-Za-z][A-Za-z0-9_]*", name)])
        self.none([node for node in self.each(ast.AST) for name in named(node) if name in NEVER_NAMED])

    def test_names_of_python(self):
        reads = [node for node in self.each(ast.Name) if isinstance(node.ctx, ast.Load)]
        self.none([node for node in reads if node.id in dir(builtins) and node.id not in OWN_NAMES])
        binds = [node for node in self.each(ast.Name, ast.arg, ast.FunctionDef, ast.ClassDef)
                 if node not in reads and not isinstance(node.parent, ast.ClassDef)]
        self.none([node for node in binds if named(node)[0] in dir(builtins)])

    def test_methods_and_values(self):
        methods = [node.name for node in self.each(ast.FunctionDef) if isinstance(node.parent, ast.ClassDef)]
        attributes = self.each(ast.Attribute)
        values = [node.attr for node in attributes if isinstance(node.ctx, ast.Store)]
        self.assertEqual([name for name in methods if name in values], [])
        self.assertEqual([name for name in methods if name in TAKEN and name not in FREE_METHODS + SPECIAL], [])
        self.assertEqual([name for name in values if name in TAKEN and name not in FREE_VALUES], [])
        self.assertEqual([name for name in values if name in NEVER_VALUES], [])
        self.none([node for node in attributes if node.attr not in methods + values + METHODS])
        self.none([node for node in attributes
                   if node.attr not in values and not isinstance(node.parent, (ast.Call, ast.keyword))])

    def test_imports(self):
        draws = {}
        for path, tree in self.trees.items():
            imports = [node for node in ast.walk(tree) if isinstance(node, ast.ImportFrom)]
            self.none([node for node in imports if node.level or file_of(node) not in self.trees])
            for node in imports:
                source = self.trees[file_of(node)]
                written = [name for top in source.body if not isinstance(top, ast.ImportFrom) for name in bound_by(top)]
                self.assertEqual([alias.name for alias in node.names if alias.name not in written], [], path)
            draws[path] = [file_of(node) for node in imports]
        while draws:
            free = [path for path in draws if not any(other in draws for other in draws[path])]
            self.assertTrue(free, f"files draw from one another: {sorted(draws)}")
            draws = {path: draws[path] for path in draws if path not in free}

    def test_walked_on_the_spot(self):
        self.none([node for node in self.each(ast.Call) if named(node.func)[0] in ON_THE_SPOT and not is_walked(node)])

    def test_comparisons_and_powers(self):
        for node in self.each(ast.Compare):
            self.none([right for operator, right in zip(node.ops, node.comparators)
                       if isinstance(operator, (ast.Is, ast.IsNot))
                       and not (isinstance(right, ast.Constant) and right.value in (None, True, False))])
        powers = [node for node in self.each(ast.BinOp) if isinstance(node.op, ast.Pow)]
        self.none([node for node in powers
                   if not isinstance(node.right, ast.Constant) or node.right.value not in range(65)])

    def test_errors(self):
        handlers = self.each(ast.ExceptHandler)
        self.none([node for node in handlers if not isinstance(node.type, (ast.Name, ast.Tuple))])
        self.none([node for node in handlers for part in ast.walk(node.type)
                   if isinstance(part, ast.Name) and part.id in NEVER_CAUGHT])
        self.none([node for node in self.each(ast.Raise) if not isinstance(node.exc, ast.Call)])

    def test_interface_stands_once(self):
        homes = [path for path, tree in self.trees.items() for node in tree.body
                 if isinstance(node, (ast.FunctionDef, ast.ClassDef)) and node.name == "answers"]
        self.assertEqual(homes, ["freecharge/house.py"])


if __name__ == "__main__":
    unittest.main()
