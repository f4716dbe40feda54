"""Tests that the files of the package keep to the small part of Python in which it is written."""

import ast
import builtins
import pathlib
import re
import tokenize
import unittest

PACKAGE = pathlib.Path(__file__).resolve().parent.parent / "signsquared"
FILES = sorted(path for path in PACKAGE.iterdir() if path.name != "__pycache__")
TREES = {path.stem: ast.parse(path.read_text(encoding="utf-8")) for path in FILES}

# Running doctests leaves an underscore among the builtins.
KNOWN = set(dir(builtins)) - {"_"}
BUILTINS = set("""
    len range enumerate zip min max sum abs sorted reversed int str bool bytes list tuple dict set frozenset isinstance ord
    repr any all divmod Exception ValueError TypeError KeyError IndexError LookupError ZeroDivisionError ArithmeticError
    OverflowError RuntimeError NotImplementedError AttributeError StopIteration NotImplemented super property classmethod
    staticmethod iter next map
""".split())
METHODS = set("""
    append clear copy count endswith extend find get index insert isalnum isalpha isdigit islower isspace isupper items join
    keys ljust lower lstrip partition pop remove replace reverse rfind rjust rpartition rsplit rstrip setdefault split
    splitlines startswith strip update upper values zfill bit_length __init__
""".split())
LIBRARY = {"math": {"gcd", "lcm", "isqrt", "comb", "perm", "factorial"}}
BARRED = set("""
    type typing typing_extensions enum Enum IntEnum StrEnum Flag IntFlag Generic Protocol ABC ABCMeta namedtuple NamedTuple
    TypedDict TYPE_CHECKING abstractmethod dataclass overload contextmanager register mro elements open input law
    version_info with_traceback add_note _wall _WallAttr
""".split())
STATEMENTS = (
    ast.Assign, ast.If, ast.While, ast.For, ast.Return, ast.Break, ast.Continue, ast.Pass, ast.Raise, ast.Assert, ast.Delete,
    ast.Expr, ast.FunctionDef, ast.ClassDef, ast.ImportFrom,
)


def nodes(*kinds):
    return [(name, node) for name, tree in TREES.items() for node in ast.walk(tree) if isinstance(node, kinds)]


def top_names(tree):
    """The names that a module binds, in order."""
    found = []
    for node in tree.body:
        if isinstance(node, (ast.FunctionDef, ast.ClassDef)):
            found.append(node.name)
        elif isinstance(node, ast.Assign):
            found += [target.id for target in node.targets]
        elif isinstance(node, ast.ImportFrom):
            found += [alias.name for alias in node.names]
    return found


def inner_names(tree):
    """The parameters, local variables and nested functions of a module."""
    found = [node.arg for node in ast.walk(tree) if isinstance(node, ast.arg)]
    for function in [node for node in ast.walk(tree) if isinstance(node, ast.FunctionDef)]:
        for node in ast.walk(function):
            if isinstance(node, ast.Name) and not isinstance(node.ctx, ast.Load):
                found.append(node.id)
            elif isinstance(node, ast.FunctionDef) and node is not function:
                found.append(node.name)
    return found


COMPREHENSIONS = (ast.ListComp, ast.SetComp, ast.DictComp, ast.GeneratorExp)


def stored(node):
    return {some.id for some in ast.walk(node) if isinstance(some, ast.Name) and isinstance(some.ctx, ast.Store)}


def targets_of(comprehension):
    """The variables of a comprehension."""
    return set().union(*[stored(part.target) for part in comprehension.generators])


def assigned_outside(function):
    """What a function assigns outside of its comprehensions, and its parameters."""
    found, rest = {argument.arg for argument in function.args.args}, [function]
    while rest:
        for node in ast.iter_child_nodes(rest.pop()):
            if isinstance(node, ast.Name) and isinstance(node.ctx, ast.Store):
                found.add(node.id)
            if not isinstance(node, COMPREHENSIONS):
                rest.append(node)
    return found


class Files(unittest.TestCase):
    def test_only_plain_files(self):
        for path in FILES:
            self.assertRegex(path.name, r"^[a-z_]+\.py$")

    def test_sizes_and_characters(self):
        for path in FILES:
            told = path.read_text(encoding="utf-8")
            self.assertRegex(told, r"\A[ -~\n]*\Z", path.name)
            self.assertLess(len(told.splitlines()), 400, path.name)
            self.assertLessEqual(max(map(len, told.splitlines())), 120, path.name)

    def test_functions_are_short(self):
        for name, node in nodes(ast.FunctionDef):
            self.assertLessEqual(node.end_lineno - node.lineno + 1, 40, (name, node.name))

    def test_docstrings(self):
        for name, node in nodes(ast.FunctionDef, ast.ClassDef, ast.Module):
            if getattr(node, "name", "") not in ("__init__", "worth"):
                self.assertTrue(ast.get_docstring(node), (name, getattr(node, "name", "")))


class Modules(unittest.TestCase):
    def test_imports(self):
        for name, node in nodes(ast.ImportFrom, ast.Import):
            self.assertIsInstance(node, ast.ImportFrom)
            self.assertIn(node, TREES[name].body)
            for alias in node.names:
                self.assertIsNone(alias.asname)
                if node.module in LIBRARY:
                    self.assertIn(alias.name, LIBRARY[node.module])
                else:
                    home = TREES[node.module.removeprefix("signsquared.")]
                    defined = [one.name for one in home.body if isinstance(one, (ast.FunctionDef, ast.ClassDef))]
                    constants = [one.targets[0].id for one in home.body if isinstance(one, ast.Assign)]
                    self.assertIn(alias.name, defined + constants, name)

    def test_imports_are_used(self):
        for name, tree in TREES.items():
            used = [node.id for node in ast.walk(tree) if isinstance(node, ast.Name)]
            for node in tree.body:
                if isinstance(node, ast.ImportFrom):
                    for alias in node.names:
                        self.assertIn(alias.name, used, name)

    def test_no_two_modules_import_each_other(self):
        wants = {
            name: {node.module.removeprefix("signsquared.") for node in tree.body if isinstance(node, ast.ImportFrom)}
            for name, tree in TREES.items()
        }
        done = set(LIBRARY)
        while set(wants) - done:
            free = {name for name in wants if name not in done and wants[name] <= done}
            self.assertTrue(free, sorted(set(wants) - done))
            done |= free

    def test_what_stands_at_module_level(self):
        for name, tree in TREES.items():
            for node in tree.body:
                self.assertIsInstance(node, (ast.Expr, ast.ImportFrom, ast.FunctionDef, ast.ClassDef, ast.Assign), name)
                if isinstance(node, ast.Assign):
                    ast.literal_eval(node.value)

    def test_names_are_bound_once(self):
        for name, tree in TREES.items():
            self.assertEqual(len(top_names(tree)), len(set(top_names(tree))), name)

    def test_names_within_functions(self):
        for name, tree in TREES.items():
            own, inner = set(top_names(tree)), set(inner_names(tree))
            self.assertEqual(own & inner, set(), name)
            self.assertEqual((own | inner) & KNOWN, set(), name)
            for some in own | inner:
                self.assertRegex(some, r"^(_|_?[A-Za-z][A-Za-z0-9_]*)$")


    def test_inner_comprehensions_have_names_of_their_own(self):
        for name, function in nodes(ast.FunctionDef):
            inner = [node for node in ast.walk(function) if isinstance(node, COMPREHENSIONS)]
            for outer in inner:
                for node in ast.walk(outer):
                    if node is not outer and isinstance(node, COMPREHENSIONS):
                        around = targets_of(outer) | assigned_outside(function)
                        self.assertEqual(targets_of(node) & around, set(), (name, node.lineno))


class Statements(unittest.TestCase):
    def test_kinds_of_statements(self):
        for name, node in nodes(ast.stmt):
            self.assertIsInstance(node, STATEMENTS, (name, node.lineno))

    def test_no_decorators_and_no_generators(self):
        for name, node in nodes(ast.FunctionDef, ast.ClassDef):
            self.assertEqual(node.decorator_list, [], name)
        self.assertEqual(nodes(ast.Yield, ast.YieldFrom, ast.GeneratorExp, ast.Await), [])

    def test_numbers(self):
        for name, node in nodes(ast.Constant):
            self.assertNotIsInstance(node.value, (float, complex, bytes), (name, node.lineno))
        for name, node in nodes(ast.BinOp):
            self.assertNotIsInstance(node.op, (ast.Div, ast.MatMult, ast.Pow), (name, node.lineno))

    def test_only_these_builtins(self):
        for name, node in nodes(ast.Name):
            if node.id in KNOWN:
                self.assertIn(node.id, BUILTINS, (name, node.lineno))

    def test_only_these_methods(self):
        for name, node in nodes(ast.Attribute):
            if isinstance(node.ctx, ast.Load):
                self.assertIn(node.attr, METHODS, (name, node.lineno))

    def test_errors_are_made_on_the_spot(self):
        for name, node in nodes(ast.Raise):
            self.assertIsInstance(node.exc, ast.Call, (name, node.lineno))
            self.assertIn(node.exc.func.id, top_names(TREES["errors"]))

    def test_is_only_with_none(self):
        for name, node in nodes(ast.Compare):
            for sign, other in zip(node.ops, node.comparators):
                if isinstance(sign, (ast.Is, ast.IsNot)):
                    self.assertIsInstance(other, ast.Constant, (name, node.lineno))

    def test_ranges_and_the_like_are_kept_alone(self):
        """A range is kept by a plain assignment to one name; what else runs along things is not kept."""
        for name, node in nodes(ast.Assign):
            values = node.value.elts if isinstance(node.value, ast.Tuple) else [node.value]
            for value in values:
                if isinstance(value, ast.Call) and isinstance(value.func, ast.Name):
                    self.assertNotIn(value.func.id, ("zip", "enumerate", "reversed", "map", "set"), (name, node.lineno))
                    if value.func.id == "range":
                        self.assertIs(value, node.value, (name, node.lineno))
                        self.assertIsInstance(node.targets[0], ast.Name, (name, node.lineno))

    def test_words(self):
        for path in FILES:
            with tokenize.open(path) as lines:
                for token in tokenize.generate_tokens(lines.readline):
                    if token.type != tokenize.COMMENT:
                        found = set(re.findall(r"[A-Za-z_]+", token.string)) & BARRED
                        self.assertEqual(found, set(), (path.name, token.start))
                    if token.type == tokenize.STRING:
                        self.assertNotRegex(token.string, r"[%\\]", (path.name, token.start))


if __name__ == "__main__":
    unittest.main()
