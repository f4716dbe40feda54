"""Tests that the files of the package keep to the small part of Python in which it is written."""

import ast
import builtins
import pathlib
import re
import tokenize
import unittest

PACKAGE = pathlib.Path(__file__).resolve().parent.parent / "signsquared"
FILES = sorted(path for path in PACKAGE.iterdir() if path.name != "__pycache__")
TREES = {path.stem: ast.parse(path.read_text(encoding="utf-8")) for path in FILES}

# Running doctests leaves an underscore among the builtins.
KNOWN = set(dir(builtins)) - {"_"}
BUILTINS = set("""
    len range enumerate zip min max sum abs sorted reversed int str bool bytes list tuple dict set frozenset isinstance ord
    repr any all divmod Exception ValueError TypeError KeyError IndexError LookupError ZeroDivisionError ArithmeticError
    OverflowError RuntimeError NotImplementedError AttributeError StopIteration NotImplemented super property classmethod
    staticmethod iter next map
""".split())
METHODS = set("""
    append clear copy count endswith extend find get index insert isalnum isalpha isdigit islower isspace isupper items join
    keys ljust lower lstrip partition pop remove replace reverse rfind rjust rpartition rsplit rstrip setdefault split
    splitlines startswith strip update upper values zfill bit_length __init__
""".split())
LIBRARY = {"math": {"gcd", "lcm", "isqrt", "comb", "perm", "factorial"}}
BARRED = set("""
    type typing typing_extensions enum Enum IntEnum StrEnum Flag IntFlag Generic Protocol ABC ABCMeta namedtuple NamedTuple
    TypedDict TYPE_CHECKING abstractmethod dataclass overload contextmanager register mro elements open input law
    version_info with_traceback add_note _wall _WallAttr
""".split())
STATEMENTS = (
    ast.Assign, ast.If, ast.While, ast.For, ast.Return, ast.Break, ast.Continue, ast.Pass, ast.Raise, ast.Assert, ast.Delete,
    ast.Expr, ast.FunctionDef, ast.ClassDef, ast.ImportFrom, ast.Try,
)
# The methods with two underscores that a class may have, and their parameters.
DOUBLE = {
    **dict.fromkeys("__eq__ __xor__ __ixor__ __lshift__ __mul__ __and__ __or__ __iadd__".split(), ["self", "other"]),
    **dict.fromkeys("__len__ __bool__ __str__ __iter__ __invert__".split(), ["self"]),
    "__contains__": ["self", "x"], "__getitem__": ["self", "at"],
}
IN_PLACE = {"__ixor__", "__iadd__"}


def nodes(*kinds):
    return [(name, node) for name, tree in TREES.items() for node in ast.walk(tree) if isinstance(node, kinds)]


def top_names(tree):
    """The names that a module binds, in order."""
    found = []
    for node in tree.body:
        if isinstance(node, (ast.FunctionDef, ast.ClassDef)):
            found.append(node.name)
        elif isinstance(node, ast.Assign):
            found += [target.id for target in node.targets]
        elif isinstance(node, ast.ImportFrom):
            found += [alias.name for alias in node.names]
    return found


def inner_names(tree):
    """The parameters, local variables and nested functions of a module."""
    found = [node.arg for node in ast.walk(tree) if isinstance(node, ast.arg)]
    for function in [node for node in ast.walk(tree) if isinstance(node, ast.FunctionDef)]:
        for node in ast.walk(function):
            if isinstance(node, ast.Name) and not isinstance(node.ctx, ast.Load):
                found.append(node.id)
            elif isinstance(node, ast.FunctionDef) and node is not function:
                found.append(node.name)
    return found


COMPREHENSIONS = (ast.ListComp, ast.SetComp, ast.DictComp, ast.GeneratorExp)


def stored(node):
    return {some.id for some in ast.walk(node) if isinstance(some, ast.Name) and isinstance(some.ctx, ast.Store)}


def targets_of(comprehension):
    """The variables of a comprehension."""
    return set().union(*[stored(part.target) for part in comprehension.generators])


def assigned_outside(function):
    """What a function assigns outside of its comprehensions, and its parameters."""
    found, rest = {argument.arg for argument in function.args.args}, [function]
    while rest:
        for node in ast.iter_child_nodes(rest.pop()):
            if isinstance(node, ast.Name) and isinstance(node.ctx, ast.Store):
                found.add(node.id)
            if not isinstance(node, COMPREHENSIONS):
                rest.append(node)
    return found


class Files(unittest.TestCase):
    def test_only_plain_files(self):
        for path in FILES:
            self.assertRegex(path.name, r"^[a-z_]+\.py$")

    def test_sizes_and_characters(self):
        for path in FILES:
            told = path.read_text(encoding="utf-8")
            self.assertRegex(told, r"\A[ -~\n]*\Z", path.name)
            self.assertLess(len(told.splitlines()), 400, path.name)
            self.assertLessEqual(max(map(len, told.splitlines())), 120, path.name)

    def test_functions_are_short(self):
        for name, node in nodes(ast.FunctionDef):
            self.assertLessEqual(node.end_lineno - node.lineno + 1, 40, (name, node.name))

    def test_docstrings(self):
        for name, node in nodes(ast.FunctionDef, ast.ClassDef, ast.Module):
            if getattr(node, "name", "") not in ("__init__", "__call__", "worth", *DOUBLE):
                self.assertTrue(ast.get_docstring(node), (name, getattr(node, "name", "")))


class Modules(unittest.TestCase):
    def test_imports(self):
        for name, node in nodes(ast.ImportFrom, ast.Import):
            self.assertIsInstance(node, ast.ImportFrom)
            self.assertIn(node, TREES[name].body)
            for alias in node.names:
                self.assertIsNone(alias.asname)
                if node.module in LIBRARY:
                    self.assertIn(alias.name, LIBRARY[node.module])
                else:
                    home = TREES[node.module.removeprefix("signsquared.")]
                    defined = [one.name for one in home.body if isinstance(one, (ast.FunctionDef, ast.ClassDef))]
                    constants = [one.targets[0].id for one in home.body if isinstance(one, ast.Assign)]
                    self.assertIn(alias.name, defined + constants, name)

    def test_imports_are_used(self):
        for name, tree in TREES.items():
            used = [node.id for node in ast.walk(tree) if isinstance(node, ast.Name)]
            for node in tree.body:
                if isinstance(node, ast.ImportFrom):
                    for alias in node.names:
                        self.assertIn(alias.name, used, name)

    def test_no_two_modules_import_each_other(self):
        wants = {
            name: {node.module.removeprefix("signsquared.") for node in tree.body if isinstance(node, ast.ImportFrom)}
            for name, tree in TREES.items()
        }
        done = set(LIBRARY)
        while set(wants) - done:
            free = {name for name in wants if name not in done and wants[name] <= done}
            self.assertTrue(free, sorted(set(wants) - done))
            done |= free

    def test_what_stands_at_module_level(self):
        for name, tree in TREES.items():
            for node in tree.body:
                self.assertIsInstance(node, (ast.Expr, ast.ImportFrom, ast.FunctionDef, ast.ClassDef, ast.Assign), name)
                if isinstance(node, ast.Assign):
                    ast.literal_eval(node.value)

    def test_names_are_bound_once(self):
        for name, tree in TREES.items():
            self.assertEqual(len(top_names(tree)), len(set(top_names(tree))), name)

    def test_names_within_functions(self):
        for name, tree in TREES.items():
            own, inner = set(top_names(tree)), set(inner_names(tree))
            self.assertEqual(own & inner, set(), name)
            self.assertEqual((own | inner) & KNOWN, set(), name)
            for some in own | inner:
                self.assertRegex(some, r"^(_|_?[A-Za-z][A-Za-z0-9_]*)$")


    def test_inner_comprehensions_have_names_of_their_own(self):
        for name, function in nodes(ast.FunctionDef):
            inner = [node for node in ast.walk(function) if isinstance(node, COMPREHENSIONS)]
            for outer in inner:
                for node in ast.walk(outer):
                    if node is not outer and isinstance(node, COMPREHENSIONS):
                        around = targets_of(outer) | assigned_outside(function)
                        self.assertEqual(targets_of(node) & around, set(), (name, node.lineno))


class Statements(unittest.TestCase):
    def test_kinds_of_statements(self):
        for name, node in nodes(ast.stmt):
            self.assertIsInstance(node, STATEMENTS, (name, node.lineno))

    def test_no_decorators_and_no_generators(self):
        """But for properties and class methods, and for a single generator."""
        methods = [node for _, owner in nodes(ast.ClassDef) for node in owner.body if isinstance(node, ast.FunctionDef)]
        for name, node in nodes(ast.FunctionDef, ast.ClassDef):
            told = [decorator.id for decorator in node.decorator_list]
            self.assertIn(told, ([], ["property"], ["classmethod"]), name)
            self.assertTrue(told == [] or node in methods, name)
        self.assertEqual(nodes(ast.YieldFrom, ast.GeneratorExp, ast.Await), [])
        self.assertEqual([name for name, _ in nodes(ast.Yield)], ["lifebenches"])

    def test_what_is_tried(self):
        """Nothing is caught; what is at last done is plain assignments behind a test for None."""
        for name, node in nodes(ast.Try):
            self.assertEqual((node.handlers, node.orelse), ([], []), name)
            for one in node.finalbody:
                self.assertIsInstance(one, ast.If)
                self.assertEqual((type(one.test), type(one.test.left), type(one.test.ops[0])), (ast.Compare, ast.Name, ast.Is))
                self.assertEqual({type(some) for some in one.body + one.orelse}, {ast.Assign})

    def test_nothing_is_changed_by_a_sign(self):
        """No `+=` and the like, as a class has them as operators."""
        self.assertEqual(nodes(ast.AugAssign), [])

    def test_what_is_reversed(self):
        for name, node in nodes(ast.Call):
            if isinstance(node.func, ast.Name) and node.func.id == "reversed":
                self.assertIsInstance(node.args[0], ast.Call, (name, node.lineno))
                self.assertIn(node.args[0].func.id, ("range", "list", "tuple", "sorted"))

    def test_stars_in_calls(self):
        for name, node in nodes(ast.Call):
            for star in [argument for argument in node.args if isinstance(argument, ast.Starred)]:
                self.assertIsInstance(star.value, ast.Name, (name, node.lineno))
                self.assertIn(node.func.id, ("zip", "max", "min"))
            self.assertEqual([word for word in node.keywords if word.arg is None], [])

    def test_numbers(self):
        for name, node in nodes(ast.Constant):
            self.assertNotIsInstance(node.value, (float, complex, bytes), (name, node.lineno))
        for name, node in nodes(ast.BinOp):
            self.assertNotIsInstance(node.op, (ast.Div, ast.MatMult, ast.Pow), (name, node.lineno))

    def test_only_these_builtins(self):
        for name, node in nodes(ast.Name):
            if node.id in KNOWN:
                self.assertIn(node.id, BUILTINS, (name, node.lineno))

    def test_only_these_methods(self):
        own = {"_lead", "MOST"} | {node.attr for _, node in nodes(ast.Attribute) if isinstance(node.ctx, ast.Store)}
        for name, node in nodes(ast.Attribute):
            if isinstance(node.ctx, ast.Load):
                self.assertIn(node.attr, METHODS | own, (name, node.lineno))

    def test_errors_are_made_on_the_spot(self):
        for name, node in nodes(ast.Raise):
            self.assertIsInstance(node.exc, ast.Call, (name, node.lineno))
            if node.exc.func.id != "TypeError":
                self.assertIn(node.exc.func.id, top_names(TREES["errors"]))

    def test_is_only_with_none(self):
        for name, node in nodes(ast.Compare):
            for sign, other in zip(node.ops, node.comparators):
                if isinstance(sign, (ast.Is, ast.IsNot)):
                    self.assertIsInstance(other, ast.Constant, (name, node.lineno))

    def test_ranges_and_the_like_are_kept_alone(self):
        """A range is kept by a plain assignment to one name; what else runs along things is not kept."""
        for name, node in nodes(ast.Assign):
            values = node.value.elts if isinstance(node.value, ast.Tuple) else [node.value]
            for value in values:
                if isinstance(value, ast.Call) and isinstance(value.func, ast.Name):
                    self.assertNotIn(value.func.id, ("zip", "enumerate", "reversed", "map", "set"), (name, node.lineno))
                    if value.func.id == "range":
                        self.assertIs(value, node.value, (name, node.lineno))
                        self.assertIsInstance(node.targets[0], ast.Name, (name, node.lineno))

    def test_words(self):
        for path in FILES:
            with tokenize.open(path) as lines:
                for token in tokenize.generate_tokens(lines.readline):
                    if token.type != tokenize.COMMENT:
                        found = set(re.findall(r"[A-Za-z_]+", token.string)) & BARRED
                        self.assertEqual(found, set(), (path.name, token.start))
                    if token.type == tokenize.STRING:
                        self.assertNotRegex(token.string, r"%|\\[^n]", (path.name, token.start))


class Classes(unittest.TestCase):
    def classes(self):
        return [(name, node) for name, node in nodes(ast.ClassDef) if name != "errors"]

    def test_where_they_stand(self):
        self.assertEqual([(name, node.name) for name, node in self.classes()], [("lifebenches", "Bench"), ("lifevalues", "Toned")])
        for name, node in self.classes():
            self.assertEqual((node.bases, node.keywords, node.decorator_list), ([], [], []))

    def test_double_underscore_methods(self):
        for name, node in self.classes():
            for method in [some for some in node.body if isinstance(some, ast.FunctionDef)]:
                if method.name in DOUBLE:
                    self.assertEqual([argument.arg for argument in method.args.args], DOUBLE[method.name])
                    self.assertEqual((method.args.defaults, method.args.vararg, method.args.kwonlyargs), ([], None, []))
                elif method.name.startswith("__"):
                    self.assertIn(method.name, ("__init__", "__call__"))

    def test_iterating_raises(self):
        for name, node in self.classes():
            method = [some for some in node.body if getattr(some, "name", "") == "__iter__"][0]
            self.assertEqual(len(method.body), 1)
            self.assertEqual(method.body[0].exc.func.id, "TypeError")
        self.assertEqual(len([1 for _, node in nodes(ast.Raise) if node.exc.func.id == "TypeError"]), 2)

    def test_operators_and_properties_assign_no_attributes_and_items(self):
        for name, node in self.classes():
            for method in [some for some in node.body if isinstance(some, ast.FunctionDef)]:
                if method.name in set(DOUBLE) - IN_PLACE or method.decorator_list:
                    for inner in ast.walk(method):
                        if isinstance(inner, (ast.Attribute, ast.Subscript)):
                            self.assertIsInstance(inner.ctx, ast.Load, (name, method.name))

    def test_names_are_methods_or_attributes(self):
        for name, node in self.classes():
            methods = [some.name for some in node.body if isinstance(some, ast.FunctionDef)]
            stored_names = {some.attr for some in ast.walk(node) if isinstance(some, ast.Attribute) and isinstance(some.ctx, ast.Store)}
            self.assertEqual(len(methods), len(set(methods)))
            self.assertEqual(set(methods) & stored_names, set())
            self.assertTrue(all(some.startswith("_") for some in stored_names))

    def test_what_operators_call_changes_only_lists_of_its_own(self):
        """Methods that modify are called only on names, each of which its function assigns a list as a literal, or a dict."""
        for name, function in nodes(ast.FunctionDef):
            made = {}
            for node in ast.walk(function):
                if isinstance(node, ast.Assign) and isinstance(node.targets[0], ast.Name):
                    made[node.targets[0].id] = node.value
            for node in ast.walk(function):
                if isinstance(node, ast.Call) and isinstance(node.func, ast.Attribute) and node.func.attr == "append":
                    self.assertIsInstance(node.func.value, (ast.Name, ast.Subscript), (name, node.lineno))
                    if isinstance(node.func.value, ast.Name) and name in ("heights", "lifetexts", "lifesteps", "notes", "toggles"):
                        self.assertIsInstance(made[node.func.value.id], ast.List, (name, node.lineno))


if __name__ == "__main__":
    unittest.main()
