"""The package keeps to its small part of Python: what of the rules L1 to L28 a walk over the files can see."""

import ast
import builtins
import pathlib
import re
import unittest

FOLDER = pathlib.Path(__file__).resolve().parent.parent / "platerest"

OWN_NAMES = set("""
len range enumerate zip min max sum abs sorted reversed int str bool bytes list tuple dict set frozenset isinstance ord
repr any all divmod Exception ValueError TypeError KeyError IndexError LookupError ZeroDivisionError ArithmeticError
OverflowError RuntimeError NotImplementedError AttributeError StopIteration
""".split())
OWN_METHODS = set("""
append clear copy count endswith extend find get index insert isalnum isalpha isdigit islower isspace isupper items join
keys ljust lower lstrip partition pop remove replace reverse rfind rjust rpartition rsplit rstrip setdefault split
splitlines startswith strip update upper values zfill bit_length title capitalize swapcase casefold center removeprefix
removesuffix rindex isascii isdecimal isnumeric istitle isidentifier isprintable sort add discard
""".split())
UNSAID_WORDS = """
type typing typing_extensions enum Enum IntEnum StrEnum Flag IntFlag Generic Protocol ABC ABCMeta namedtuple NamedTuple
TypedDict TYPE_CHECKING abstractmethod
""".split()
UNUSED_NAMES = set("""
register mro elements open input version_info with_traceback add_note attrgetter breakpoint builtins compile copyright
credits delattr dir eval exec exit gc getattr globals hasattr help id importlib license locals methodcaller os quit
setattr super type vars sys format format_map
""".split())
DUNDERS = ("__init__", "__eq__", "__repr__", "__str__", "__len__")
STATEMENTS = (
    ast.FunctionDef, ast.ClassDef, ast.Return, ast.Assign, ast.AugAssign, ast.AnnAssign, ast.Delete, ast.For, ast.While,
    ast.If, ast.Raise, ast.Try, ast.Assert, ast.ImportFrom, ast.Expr, ast.Pass, ast.Break, ast.Continue,
)
EXPRESSIONS = (
    ast.BoolOp, ast.BinOp, ast.UnaryOp, ast.Lambda, ast.IfExp, ast.Dict, ast.Set, ast.ListComp, ast.SetComp,
    ast.DictComp, ast.Compare, ast.Call, ast.FormattedValue, ast.JoinedStr, ast.Constant, ast.Attribute, ast.Subscript,
    ast.Starred, ast.Name, ast.List, ast.Tuple, ast.Slice,
)
WALKED_AT_ONCE = ("zip", "enumerate", "reversed", "range")
WALKERS = ("list", "tuple", "dict", "sorted", "sum", "any", "all", "enumerate", "zip", "bytes", "min", "max", "len",
           "reversed")


def files():
    return sorted(FOLDER.glob("*.py"))


def trees():
    return [(path.name, ast.parse(path.read_text(encoding="utf-8"))) for path in files()]


def nodes(*kinds):
    """All nodes of these kinds, each with the place where it stands."""
    for name, tree in trees():
        for node in ast.walk(tree):
            if isinstance(node, kinds):
                yield f"{name}:{getattr(node, 'lineno', 0)}", node


def top_names(tree):
    """The names that a file's top binds, imports too, as often as it binds them."""
    found = []
    for node in tree.body:
        if isinstance(node, ast.Assign):
            found += [target.id for target in node.targets]
        elif isinstance(node, ast.ImportFrom):
            found += [alias.asname or alias.name for alias in node.names]
        elif isinstance(node, (ast.FunctionDef, ast.ClassDef)):
            found.append(node.name)
    return found


def defined_names(tree):
    drawn = [alias.name for node in tree.body if isinstance(node, ast.ImportFrom) for alias in node.names]
    return [name for name in top_names(tree) if name not in drawn]


def bound_names(node):
    """Names that are given within a node: parameters, locals, handlers, defs."""
    for part in ast.walk(node):
        if isinstance(part, ast.arg):
            yield part.arg
        elif isinstance(part, ast.Name) and isinstance(part.ctx, ast.Store):
            yield part.id
        elif isinstance(part, ast.ExceptHandler) and part.name:
            yield part.name
        elif isinstance(part, (ast.FunctionDef, ast.ClassDef)):
            yield part.name


def is_plain(node, above):
    """Whether a value at a file's top is a plain one."""
    if isinstance(node, ast.Constant):
        return not isinstance(node.value, (float, complex)) and node.value is not Ellipsis
    if isinstance(node, ast.UnaryOp):
        return isinstance(node.op, ast.USub) and is_plain(node.operand, above)
    if isinstance(node, ast.BinOp):
        return is_plain(node.left, above) and is_plain(node.right, above)
    if isinstance(node, (ast.Tuple, ast.List)):
        return all(is_plain(part, above) for part in node.elts)
    if isinstance(node, ast.Dict):
        return all(part is not None and is_plain(part, above) for part in node.keys + node.values)
    return isinstance(node, ast.Name) and node.id in above


class Files(unittest.TestCase):
    def test_names_of_the_files(self):
        self.assertTrue((FOLDER / "__init__.py").is_file())
        for path in FOLDER.iterdir():
            if path.name != "__pycache__":
                self.assertRegex(path.name, r"^(__init__|__main__|[a-z][a-z0-9_]*)\.py$")
                self.assertNotIn(path.stem, dir(builtins))
                self.assertNotRegex(path.stem, r"^(law_.*|tests?|testing|test_.*|site|conftest|\w+customize)$")

    def test_signs_and_lengths(self):
        for path in files():
            text = path.read_bytes().decode("ascii")
            self.assertIsNone(re.search(r"[^ -~\n]", text), path.name)
            rows = text.splitlines()
            self.assertLessEqual(len(rows), 400, path.name)
            for number, row in enumerate(rows, start=1):
                self.assertLessEqual(len(row), 120, f"{path.name}:{number}")

    def test_words_that_stand_nowhere(self):
        unsaid = re.compile(r"\b(" + "|".join(UNSAID_WORDS) + r")\b|dataclass|overload|contextmanager")
        for path in files():
            self.assertIsNone(unsaid.search(path.read_text(encoding="utf-8")), path.name)

    def test_functions_are_short(self):
        for place, node in nodes(ast.FunctionDef):
            self.assertLessEqual(node.end_lineno - node.lineno + 1, 40, place)


class Tops(unittest.TestCase):
    def test_what_stands_at_a_top(self):
        for name, tree in trees():
            self.assertIsNotNone(ast.get_docstring(tree), name)
            above = []
            for at, node in enumerate(tree.body):
                place = f"{name}:{node.lineno}"
                if isinstance(node, ast.Assign):
                    self.assertEqual([type(target) for target in node.targets], [ast.Name], place)
                    self.assertTrue(is_plain(node.value, above), place)
                elif isinstance(node, ast.Expr):
                    self.assertEqual(at, 0, place)
                else:
                    self.assertIsInstance(node, (ast.ImportFrom, ast.FunctionDef, ast.ClassDef), place)
                above = top_names(ast.Module(tree.body[:at + 1], []))

    def test_each_name_is_bound_once(self):
        for name, tree in trees():
            bound = top_names(tree)
            self.assertEqual(len(bound), len(set(bound)), name)

    def test_imports_draw_from_the_file_that_defines(self):
        defined = {f"platerest.{name[:-3]}": defined_names(tree) for name, tree in trees()}
        for name, tree in trees():
            for node in ast.walk(tree):
                self.assertNotIsInstance(node, ast.Import, name)
                if isinstance(node, ast.ImportFrom):
                    place = f"{name}:{node.lineno}"
                    self.assertIn(node, tree.body, place)
                    self.assertEqual(node.level, 0, place)
                    for alias in node.names:
                        self.assertIn(alias.name, defined[node.module], place)

    def test_no_two_files_draw_from_one_another(self):
        drawn = {}
        for name, tree in trees():
            drawn[name[:-3]] = {node.module.split(".")[1] for node in tree.body if isinstance(node, ast.ImportFrom)}
        while drawn:
            ready = [name for name in drawn if not drawn[name] & set(drawn)]
            self.assertNotEqual(ready, [], f"a ring among {sorted(drawn)}")
            drawn = {name: sources for name, sources in drawn.items() if name not in ready}


class Forms(unittest.TestCase):
    def test_only_these_statements_and_expressions(self):
        for place, node in nodes(ast.stmt):
            self.assertIsInstance(node, STATEMENTS, place)
        for place, node in nodes(ast.expr):
            self.assertIsInstance(node, EXPRESSIONS, place)

    def test_calls_stand_by_themselves_alone(self):
        for place, node in nodes(ast.Expr):
            self.assertTrue(isinstance(node.value, ast.Call) or isinstance(node.value, ast.Constant), place)

    def test_functions_have_plain_parameters(self):
        for place, node in nodes(ast.FunctionDef, ast.Lambda):
            self.assertFalse(getattr(node, "decorator_list", []), place)
            self.assertFalse(node.args.posonlyargs or node.args.vararg or node.args.kwarg, place)

    def test_classes_are_plain(self):
        for place, node in nodes(ast.ClassDef):
            self.assertFalse(node.decorator_list or node.keywords, place)
            self.assertLessEqual(len(node.bases), 1, place)
            for part in node.body:
                said = isinstance(part, ast.Expr) and isinstance(part.value, ast.Constant)
                self.assertTrue(said or isinstance(part, ast.FunctionDef), place)

    def test_numbers_and_signs(self):
        for place, node in nodes(ast.Constant):
            self.assertNotIsInstance(node.value, (float, complex), place)
            if isinstance(node.value, str):
                self.assertNotIn("%", node.value, place)
        for place, node in nodes(ast.BinOp, ast.AugAssign):
            self.assertNotIsInstance(node.op, (ast.Div, ast.MatMult), place)
            if isinstance(node.op, ast.Pow):
                self.assertIsInstance(getattr(node, "right", getattr(node, "value", None)), ast.Constant, place)
        for place, node in nodes(ast.FormattedValue):
            self.assertIsNone(node.format_spec, place)

    def test_is_stands_beside_none_and_truths_alone(self):
        for place, node in nodes(ast.Compare):
            for op, right in zip(node.ops, node.comparators):
                if isinstance(op, (ast.Is, ast.IsNot)):
                    self.assertIsInstance(right, ast.Constant, place)
                    self.assertIn(repr(right.value), ("None", "True", "False"), place)

    def test_loops_have_no_else(self):
        for place, node in nodes(ast.For, ast.While):
            self.assertEqual(node.orelse, [], place)

    def test_walks_are_not_kept(self):
        for name, tree in trees():
            allowed = set()
            for node in ast.walk(tree):
                if isinstance(node, (ast.For, ast.comprehension)):
                    allowed.add(id(node.iter))
                elif isinstance(node, ast.Compare):
                    allowed |= {id(part) for part in node.comparators}
                elif isinstance(node, ast.Call):
                    called = getattr(node.func, "id", getattr(node.func, "attr", ""))
                    if called in WALKERS + ("join",):
                        allowed |= {id(part) for part in node.args}
            for node in ast.walk(tree):
                if isinstance(node, ast.Call) and getattr(node.func, "id", "") in WALKED_AT_ONCE:
                    self.assertIn(id(node), allowed, f"{name}:{node.lineno}")

    def test_sets_are_told_on_the_spot(self):
        for name, tree in trees():
            allowed = set()
            for node in ast.walk(tree):
                places = []
                if isinstance(node, ast.Call) and getattr(node.func, "id", "") in ("len", "sorted"):
                    places = node.args
                elif isinstance(node, ast.Compare):
                    places = node.comparators
                for place in places:
                    # Several may stand there with a sign between.
                    both = [place.left, place.right] if isinstance(place, ast.BinOp) else [place]
                    allowed |= {id(part) for part in both}
            for node in ast.walk(tree):
                made = isinstance(node, ast.Call) and getattr(node.func, "id", "") in ("set", "frozenset")
                if made or isinstance(node, (ast.Set, ast.SetComp)):
                    self.assertIn(id(node), allowed, f"{name}:{node.lineno}")


class Names(unittest.TestCase):
    def test_pythons_own_names(self):
        for place, node in nodes(ast.Name):
            if node.id in dir(builtins):
                self.assertIn(node.id, OWN_NAMES, place)
                self.assertIsInstance(node.ctx, ast.Load, place)

    def test_no_name_hides_another(self):
        for name, tree in trees():
            drawn = [alias.name for node in tree.body if isinstance(node, ast.ImportFrom) for alias in node.names]
            classes = [node.name for node in tree.body if isinstance(node, ast.ClassDef)]
            for node in tree.body:
                within = list(bound_names(node))
                if isinstance(node, (ast.FunctionDef, ast.ClassDef)):
                    within.remove(node.name)
                for bound in within:
                    self.assertNotIn(bound, drawn + classes, f"{name}:{node.lineno}")

    def test_names_are_plain_words(self):
        for name, tree in trees():
            for bound in bound_names(tree):
                if bound not in DUNDERS:
                    self.assertRegex(bound, r"^[A-Za-z][A-Za-z0-9_]*$", name)
                    self.assertNotIn(bound, UNUSED_NAMES, name)
                    self.assertNotIn(bound, dir(builtins), name)

    def test_values_and_methods_are_known(self):
        methods, given = set(), set()
        for place, node in nodes(ast.ClassDef):
            methods |= {part.name for part in node.body if isinstance(part, ast.FunctionDef)}
        for place, node in nodes(ast.Attribute):
            if isinstance(node.ctx, ast.Store):
                given.add(node.attr)
        self.assertEqual(methods & given, set())
        for place, node in nodes(ast.Attribute):
            self.assertIn(node.attr, methods | given | OWN_METHODS | set(DUNDERS), place)
            self.assertNotIn(node.attr, UNUSED_NAMES, place)


class Kept(unittest.TestCase):
    def test_lists_and_dicts_of_a_top_are_only_read(self):
        for name, tree in trees():
            kept = {node.targets[0].id for node in tree.body
                    if isinstance(node, ast.Assign) and isinstance(node.value, (ast.Dict, ast.List))}
            for node in tree.body:
                if isinstance(node, ast.ImportFrom):
                    kept |= {alias.name for alias in node.names if alias.name.isupper()}
            above = {id(part): node for node in ast.walk(tree) for part in ast.iter_child_nodes(node)}
            for node in ast.walk(tree):
                if isinstance(node, ast.Name) and node.id in kept and isinstance(node.ctx, ast.Load):
                    holder = above[id(node)]
                    if isinstance(holder, ast.Attribute):
                        self.assertEqual(holder.attr, "get", f"{name}:{node.lineno}")
                    elif isinstance(holder, ast.Subscript):
                        self.assertIsInstance(holder.ctx, ast.Load, f"{name}:{node.lineno}")

    def test_nothing_is_written_within_two_underscores(self):
        for place, node in nodes(ast.FunctionDef):
            if node.name in ("__eq__", "__len__", "__repr__", "__str__"):
                self.assertIsInstance(node.body[-1], ast.Return, place)
                for part in ast.walk(node):
                    self.assertNotIsInstance(getattr(part, "ctx", None), (ast.Store, ast.Del), place)

    def test_lists_are_sorted_by_sorted(self):
        for place, node in nodes(ast.Attribute):
            self.assertNotEqual(node.attr, "sort", place)

    def test_a_class_without_init_is_made_of_texts_alone(self):
        bare = {node.name for place, node in nodes(ast.ClassDef)
                if not [part for part in node.body if isinstance(part, ast.FunctionDef)]}
        for place, node in nodes(ast.Raise):
            if node.exc is not None and node.exc.func.id in bare:
                self.assertEqual([type(part) for part in node.exc.args], [ast.Constant], place)
                self.assertEqual(node.exc.keywords, [], place)


class Errors(unittest.TestCase):
    def test_errors_are_taken_by_name(self):
        for place, node in nodes(ast.ExceptHandler):
            self.assertIsNotNone(node.type, place)
            taken = node.type.elts if isinstance(node.type, ast.Tuple) else [node.type]
            for part in taken:
                self.assertIsInstance(part, ast.Name, place)
                self.assertNotIn(part.id, ("Exception", "TypeError", "BaseException"), place)

    def test_errors_are_made_on_the_spot(self):
        for place, node in nodes(ast.Raise):
            if node.exc is not None:
                self.assertIsInstance(node.exc, ast.Call, place)
                self.assertIsInstance(node.exc.func, ast.Name, place)


if __name__ == "__main__":
    unittest.main()
