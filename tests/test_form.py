"""The form of the package: those rules of LANGUAGE.md that are easily looked up in its files."""

import ast
import builtins
import functools
import pathlib
import re
import unittest

FOLDER = pathlib.Path(__file__).resolve().parent.parent / "loopturn"

ALLOWED_BUILTINS = set(
    "len range enumerate zip min max sum abs sorted reversed int str bool bytes list tuple dict set frozenset"
    " isinstance ord repr any all divmod Exception ValueError TypeError KeyError IndexError LookupError"
    " ZeroDivisionError ArithmeticError OverflowError RuntimeError NotImplementedError StopIteration"
    " NotImplemented object super property staticmethod classmethod".split()
)
# L25, without the methods of bytes, which the package doesn't make.
ALLOWED_METHODS = set(
    "append clear copy count endswith extend find get index insert isalnum isalpha isdigit islower isspace isupper"
    " items join keys ljust lower lstrip partition pop remove replace reverse rfind rjust rpartition rsplit rstrip"
    " setdefault split splitlines startswith strip update upper values zfill bit_length title capitalize swapcase"
    " casefold center expandtabs removeprefix removesuffix rindex isascii isdecimal isnumeric istitle isidentifier"
    " isprintable sort add discard".split()
)
BARRED_WORDS = re.compile(
    r"\b(type|typing|typing_extensions|enum|Enum|IntEnum|StrEnum|Flag|IntFlag|Generic|Protocol|ABC|ABCMeta"
    r"|namedtuple|NamedTuple|TypedDict|TYPE_CHECKING|abstractmethod)\b|dataclass|overload|contextmanager"
)
BARRED_NAMES = set(
    "register mro elements open input version_info with_traceback add_note attrgetter breakpoint builtins compile"
    " copyright credits delattr dir eval exec exit gc getattr globals hasattr help id importlib license locals"
    " methodcaller os quit setattr type vars sys format format_map".split()
)
BARRED_NODES = (
    ast.Div, ast.Global, ast.Import, ast.AsyncFunctionDef, ast.AsyncFor, ast.AsyncWith, ast.Await,
)
# L26: no attribute may have one of these names.
BARRED_ATTRIBUTES = (
    "items keys values pop update append clear extend insert remove reverse setdefault sort args encode decode hex"
    " fromhex format".split()
)
ITERATED = {"zip", "enumerate", "reversed", "range"}
ITERATED_METHODS = {"items", "keys", "values"}
ITERATING = set("list tuple dict sorted sum any all enumerate zip min max".split())
# The interface: a module, then its names.
INTERFACE = {
    "errors": ("LoopError", "NoText", "NoFit", "TooMany", "OutOfOrder"),
    "rounding": ("down_by", "up_by"),
    "rests": ("misses",),
    "sums": ("worth", "sum_plus", "sum_times", "put_in", "swapped", "widened", "least", "most"),
    "loops": ("first_of", "last_of", "is_turn", "turns_of", "count_of", "box_of"),
    "rows": ("cell_of", "written_by", "read_by", "touching", "number_of"),
    "runs": ("doings_of", "size_of", "done_in", "run"),
    "texts": ("shown",),
    "reader": ("read",),
    "papers": ("equations_of", "conditions_of", "holds"),
    "finder": ("touch", "meeting"),
    "turnings": ("Turning", "Swap", "Back", "Slant", "Shift", "Strips"),
    "joins": ("Join", "Part"),
    "spoken": ("read_turning",),
    "orders": ("clash", "turned", "beside"),
    "desk": ("Desk",),
}
# The methods of the classes, and what they are made of, as the interface writes them.
TURNING = ("made(program)", "there(program, doing)", "back(program, doing)", "words()")
METHODS = {
    "Turning": TURNING + ("__init__(piece)",),
    "Swap": TURNING + ("__init__(piece, at)",),
    "Back": TURNING + ("__init__(piece, at)",),
    "Slant": TURNING + ("__init__(piece, at, outer, far)",),
    "Shift": TURNING + ("__init__(piece, at, far)",),
    "Strips": TURNING + ("__init__(piece, at, wide, name)",),
    "Join": TURNING + ("__init__(piece)",),
    "Part": TURNING + ("__init__(piece, row)",),
    "Desk": (
        "__init__(program)", "turn(turning)", "undo()", "now()", "now_of(doing)", "old_of(doing)", "many()", "told()",
    ),
    "OutOfOrder": ("__init__(first, second)",),
}


def files():
    return sorted(FOLDER.rglob("*.py"))


@functools.cache
def trees():
    return [(path.name, ast.parse(path.read_text(encoding="utf-8"))) for path in files()]


def nodes():
    return [(name, node) for name, tree in trees() for node in ast.walk(tree)]


def bound_at_top(tree):
    """The names that a file binds at module level, as often as it binds them."""
    bound = []
    for node in tree.body:
        if isinstance(node, (ast.FunctionDef, ast.ClassDef)):
            bound.append(node.name)
        elif isinstance(node, ast.ImportFrom):
            bound.extend(alias.asname or alias.name for alias in node.names)
        elif isinstance(node, ast.Assign):
            bound.extend(target.id for target in node.targets)
    return bound


def bound_within(tree):
    """The names of parameters, local variables and nested functions."""
    for function in ast.walk(tree):
        if isinstance(function, (ast.FunctionDef, ast.Lambda)):
            for node in ast.walk(function):
                if isinstance(node, ast.arg):
                    yield node.arg
                elif isinstance(node, ast.Name) and not isinstance(node.ctx, ast.Load):
                    yield node.id
                elif isinstance(node, ast.FunctionDef) and node is not function:
                    yield node.name
                elif isinstance(node, ast.ExceptHandler) and node.name:
                    yield node.name


def is_plain(assignment, tree):
    """Whether an assignment at module level is of plain values, and of functions defined above it."""
    above = {
        node.name for node in tree.body if isinstance(node, ast.FunctionDef) and node.lineno < assignment.lineno
    }
    kinds = (ast.Constant, ast.Tuple, ast.List, ast.Dict, ast.Load, ast.USub, ast.UnaryOp)
    for node in ast.walk(assignment.value):
        if isinstance(node, ast.Name) and node.id not in above:
            return False
        if not isinstance(node, kinds + (ast.Name,)):
            return False
    return True


def classes():
    return [(name, node) for name, node in nodes() if isinstance(node, ast.ClassDef)]


def own_methods():
    return {
        child.name for name, node in classes() for child in node.body if isinstance(child, ast.FunctionDef)
    }


def own_attributes():
    return {
        child.attr for name, node in classes()
        for child in ast.walk(node) if isinstance(child, ast.Attribute) and isinstance(child.ctx, ast.Store)
    }


class Files(unittest.TestCase):
    def test_nothing_but_plain_python_files(self):
        self.assertTrue((FOLDER / "__init__.py").is_file())
        for path in FOLDER.iterdir():
            if path.name != "__pycache__":
                self.assertRegex(path.name, r"^[a-z0-9_]+\.py$")

    def test_characters_and_sizes(self):
        for path in files():
            text = path.read_bytes().decode("ascii")
            self.assertRegex(text, r"\A[ -~\n]*\Z", path.name)
            lines = text.split("\n")
            self.assertLessEqual(len(lines), 400, path.name)
            self.assertLessEqual(max(len(line) for line in lines), 120, path.name)

    def test_barred_words(self):
        for path in files():
            self.assertIsNone(BARRED_WORDS.search(path.read_text(encoding="utf-8")), path.name)


class Modules(unittest.TestCase):
    def test_interface(self):
        defined = {
            name[:-3]: [node.name for node in tree.body if isinstance(node, (ast.FunctionDef, ast.ClassDef))]
            for name, tree in trees()
        }
        for module, names in INTERFACE.items():
            for name in names:
                self.assertIn(name, defined[module])

    def test_methods_stand_in_their_classes(self):
        for kind, wanted in METHODS.items():
            (body,) = [node.body for name, node in classes() if node.name == kind]
            told = {node.name: [one.arg for one in node.args.args] for node in body if isinstance(node, ast.FunctionDef)}
            for method in wanted:
                name, arguments = method.rstrip(")").split("(")
                self.assertEqual(told[name], ["self"] + [one for one in arguments.split(", ") if one], (kind, name))

    def test_top_of_files(self):
        for name, tree in trees():
            self.assertIsNotNone(ast.get_docstring(tree), name)
            for node in tree.body[1:]:
                self.assertIsInstance(node, (ast.ImportFrom, ast.FunctionDef, ast.ClassDef, ast.Assign), name)
                if isinstance(node, ast.Assign):
                    self.assertTrue(is_plain(node, tree), (name, node.lineno))
            bound = bound_at_top(tree)
            self.assertEqual(len(bound), len(set(bound)), name)

    def test_imports_name_the_file_that_defines_the_name(self):
        defined = {name[:-3]: tree for name, tree in trees()}
        for name, node in nodes():
            if isinstance(node, ast.ImportFrom):
                self.assertEqual(node.level, 0, name)
                self.assertRegex(node.module, r"^loopturn\.[a-z0-9_]+$")
                tree = defined[node.module.removeprefix("loopturn.")]
                there = [one for one in tree.body if not isinstance(one, ast.ImportFrom)]
                for alias in node.names:
                    self.assertIn(alias.name, bound_at_top(ast.Module(there, [])), name)

    def test_imports_stand_at_the_top(self):
        for name, tree in trees():
            kinds = [isinstance(node, ast.ImportFrom) for node in tree.body[1:]]
            self.assertEqual(kinds, sorted(kinds, reverse=True), name)
            self.assertEqual(sum(kinds), sum(isinstance(node, ast.ImportFrom) for node in ast.walk(tree)), name)

    def test_no_two_files_import_from_each_other(self):
        reached = {
            "loopturn." + name[:-3]: {node.module for node in tree.body if isinstance(node, ast.ImportFrom)}
            for name, tree in trees()
        }
        for again in reached:
            for name in reached:
                reached[name] = reached[name].union(*[reached[other] for other in reached[name]])
        for name in reached:
            self.assertNotIn(name, reached[name])


class Code(unittest.TestCase):
    def test_functions_are_short(self):
        for name, node in nodes():
            if isinstance(node, ast.FunctionDef):
                self.assertLessEqual(node.end_lineno - node.lineno + 1, 40, (name, node.name))

    def test_builtins_and_names(self):
        for name, node in nodes():
            if isinstance(node, ast.Name):
                self.assertRegex(node.id, r"^[A-Za-z]|^__all__$|^__version__$", name)
                if hasattr(builtins, node.id):
                    self.assertIn(node.id, ALLOWED_BUILTINS, name)
                    self.assertIsInstance(node.ctx, ast.Load, name)

    def test_names_within_hide_nothing(self):
        for name, tree in trees():
            barred = {alias.name for node in tree.body if isinstance(node, ast.ImportFrom) for alias in node.names}
            barred |= {node.name for node in tree.body if isinstance(node, ast.ClassDef)}
            for bound in bound_within(tree):
                self.assertNotIn(bound, barred, name)
                self.assertFalse(hasattr(builtins, bound), (name, bound))
                self.assertNotIn(bound, BARRED_NAMES, name)
                self.assertRegex(bound, r"^[A-Za-z][A-Za-z0-9_]*$", name)

    def test_barred_nodes(self):
        for name, node in nodes():
            self.assertNotIsInstance(node, BARRED_NODES, name)
            if isinstance(node, ast.Constant):
                self.assertNotIsInstance(node.value, (float, complex), name)
                if isinstance(node.value, str):
                    self.assertNotIn("%", node.value, name)
            if isinstance(node, ast.BinOp) and isinstance(node.op, ast.Pow):
                self.assertIn(ast.literal_eval(node.right), range(65), name)
            if isinstance(node, ast.Compare) and any(isinstance(op, (ast.Is, ast.IsNot)) for op in node.ops):
                self.assertIn(ast.literal_eval(node.comparators[0]), (None, True, False), name)

    def test_attributes(self):
        own = own_attributes() | own_methods()
        for name, node in nodes():
            if isinstance(node, ast.Attribute):
                self.assertIn(node.attr, own | ALLOWED_METHODS, name)
                if isinstance(node.ctx, ast.Store):
                    self.assertIsInstance(node.value, ast.Name, name)

    def test_no_name_is_a_method_and_an_attribute(self):
        self.assertEqual(own_methods() & own_attributes(), set())
        self.assertEqual(own_attributes() & set(BARRED_ATTRIBUTES), set())

    def test_methods_are_called_where_they_stand(self):
        called = {node.func for name, node in nodes() if isinstance(node, ast.Call)}
        methods = own_methods() | ALLOWED_METHODS - own_attributes()
        for name, node in nodes():
            if isinstance(node, ast.Attribute) and node.attr in methods:
                self.assertTrue(node in called, (name, node.lineno))

    def test_classes_are_called_or_stood_under(self):
        own = {node.name for name, node in classes()}
        used = set()
        for name, node in nodes():
            if isinstance(node, ast.Call):
                used.add(node.func)
                if isinstance(node.func, ast.Name) and node.func.id == "isinstance":
                    used.add(node.args[1])
            elif isinstance(node, ast.ClassDef):
                used.update(node.bases)
            elif isinstance(node, ast.ExceptHandler):
                used.add(node.type)
            elif isinstance(node, ast.Attribute) and node.attr == "__init__":
                used.add(node.value)
        for name, node in nodes():
            if isinstance(node, ast.Name) and node.id in own:
                self.assertTrue(node in used, (name, node.lineno))

    def test_lambdas_stand_on_lines_of_their_own(self):
        for path in files():
            for line in path.read_text(encoding="utf-8").split("\n"):
                self.assertLessEqual(len(re.findall(r"\blambda\b", line)), 1, (path.name, line))

    def test_no_annotations_and_no_decorators(self):
        for name, node in nodes():
            self.assertNotIsInstance(node, ast.AnnAssign, name)
            if isinstance(node, ast.arg):
                self.assertIsNone(node.annotation, name)
            if isinstance(node, ast.FunctionDef):
                self.assertIsNone(node.returns, name)
                self.assertEqual(node.decorator_list + node.args.posonlyargs, [], name)

    def test_iterated_at_once(self):
        for name, tree in trees():
            on_the_spot = set()
            for node in ast.walk(tree):
                if isinstance(node, (ast.For, ast.comprehension)):
                    on_the_spot.add(node.iter)
                elif isinstance(node, ast.Call) and isinstance(node.func, ast.Name) and node.func.id in ITERATING:
                    on_the_spot.update(node.args if node.func.id == "zip" else node.args[:1])
                elif isinstance(node, ast.Call) and isinstance(node.func, ast.Attribute) and node.func.attr == "join":
                    if isinstance(node.func.value, ast.Constant):
                        on_the_spot.update(node.args)
                elif isinstance(node, ast.Call) and isinstance(node.func, ast.Name) and node.func.id == "reversed":
                    on_the_spot.update(
                        one for one in node.args if isinstance(one, ast.Call) and ast.unparse(one.func) == "range"
                    )
            for node in ast.walk(tree):
                if isinstance(node, ast.GeneratorExp):
                    self.assertTrue(node in on_the_spot, (name, node.lineno))
                if isinstance(node, ast.Call):
                    function = node.func
                    stored = isinstance(function, ast.Name) and function.id in ITERATED
                    stored |= isinstance(function, ast.Attribute) and function.attr in ITERATED_METHODS
                    if stored:
                        self.assertTrue(node in on_the_spot, (name, node.lineno))

    def test_sets_are_not_written(self):
        # The package has needed none so far; L24 says where they may stand once it does.
        for name, node in nodes():
            self.assertNotIsInstance(node, (ast.Set, ast.SetComp), name)
            if isinstance(node, ast.Name):
                self.assertNotIn(node.id, ("set", "frozenset"), name)

    def test_errors(self):
        for name, node in nodes():
            if isinstance(node, ast.Raise) and node.exc is not None:
                self.assertIsInstance(node.exc, ast.Call, name)
                self.assertIsInstance(node.exc.func, ast.Name, name)
            if isinstance(node, ast.ExceptHandler):
                self.assertIsNotNone(node.type, name)
                self.assertNotIn(ast.unparse(node.type), ("Exception", "TypeError", "()"), name)


if __name__ == "__main__":
    unittest.main()
