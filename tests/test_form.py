"""The form of the package's files, as far as a walk over their syntax can see it."""

import ast
import builtins
import functools
import pathlib
import re
import unittest

PACKAGE = pathlib.Path(__file__).resolve().parent.parent / "strata"

NODES = """
    Module FunctionDef ClassDef arguments arg Return Assign AugAssign For While If Raise Try ExceptHandler
    ImportFrom alias Expr Pass Break Continue BoolOp And Or BinOp Add Sub Mult FloorDiv Mod Pow BitAnd BitOr BitXor
    LShift RShift UnaryOp Not USub UAdd Invert Lambda IfExp Dict Set ListComp comprehension Compare Eq NotEq Lt LtE
    Gt GtE Is IsNot In NotIn Call keyword JoinedStr FormattedValue Constant Attribute Subscript Slice Name List Tuple
    Load Store
""".split()

OWN_NAMES = """
    len range enumerate zip min max sum abs sorted reversed int str bool list tuple dict set frozenset isinstance ord
    repr any all divmod Exception ValueError TypeError KeyError IndexError LookupError ZeroDivisionError
    ArithmeticError OverflowError RuntimeError NotImplementedError AttributeError StopIteration
""".split()

OWN_METHODS = """
    append clear copy count endswith extend find get index insert isalnum isalpha isdigit islower isspace isupper
    items join keys ljust lower lstrip partition pop remove replace reverse rfind rjust rpartition rsplit rstrip
    setdefault split splitlines startswith strip update upper values zfill bit_length
""".split()

WORDS_OUT = re.compile(
    r"\b(type|typing|typing_extensions|enum|Enum|IntEnum|StrEnum|Flag|IntFlag|Generic|Protocol|ABC|ABCMeta|namedtuple"
    r"|NamedTuple|TypedDict|TYPE_CHECKING|abstractmethod)\b|dataclass|overload|contextmanager"
)
NAMES_OUT = """
    register mro elements open input version_info with_traceback add_note format format_map attrgetter gc importlib
    methodcaller os sys
""".split()
SPECIAL = ("__init__", "__eq__", "__repr__", "__str__", "__len__")
CHANGES = "append clear extend insert pop remove reverse setdefault update".split()
VALUES_FREE = "count index title find get join lower upper split strip copy add".split()


def sources():
    return sorted(PACKAGE.rglob("*.py"))


@functools.cache
def parsed():
    return [(path.name, ast.parse(path.read_text(encoding="utf-8"))) for path in sources()]


def nodes():
    return [(name, node) for name, module in parsed() for node in ast.walk(module)]


def with_parents():
    return [(name, part, node) for name, node in nodes() for part in ast.iter_child_nodes(node)]


def called(node):
    return node.func.id if isinstance(node, ast.Call) and isinstance(node.func, ast.Name) else ""


def is_walker(node):
    if isinstance(node, ast.Call) and isinstance(node.func, ast.Attribute):
        return node.func.attr in ("items", "keys", "values")
    return called(node) in ("zip", "enumerate", "reversed", "range")


def is_join(node):
    method = node.func if isinstance(node, ast.Call) else None
    return isinstance(method, ast.Attribute) and method.attr == "join" and isinstance(method.value, ast.Constant)


def defined(module):
    found = []
    for statement in module.body:
        if isinstance(statement, (ast.FunctionDef, ast.ClassDef)):
            found.append(statement.name)
        if isinstance(statement, ast.Assign):
            found.extend([target.id for target in statement.targets])
    return found


def package_methods():
    classes = [node for file, node in nodes() if isinstance(node, ast.ClassDef)]
    return [part.name for node in classes for part in node.body if isinstance(part, ast.FunctionDef)]


@functools.cache
def classes():
    return [node.name for file, node in nodes() if isinstance(node, ast.ClassDef)]


def of_python_s_own_values():
    return set().union(*[dir(kind) for kind in (str, int, list, dict, set, bytes)])


def named_by_handlers(module):
    """The nodes by which the handlers of a file name what they take."""
    handlers = [node.type for node in ast.walk(module) if isinstance(node, ast.ExceptHandler)]
    return [part for node in handlers for part in (node.elts if isinstance(node, ast.Tuple) else [node])]


def walked_names(node):
    """The names that a loop walks, itself or through enumerate, zip, reversed, items and their like."""
    if isinstance(node, ast.Name):
        return [node.id]
    if isinstance(node, ast.Call) and isinstance(node.func, ast.Attribute) and is_walker(node):
        return walked_names(node.func.value)
    if called(node) in ("enumerate", "zip", "reversed"):
        return [name for part in node.args for name in walked_names(part)]
    return []


def changed_names(node):
    """The names of what a statement changes in place."""
    found = []
    for part in ast.walk(node):
        if isinstance(part, ast.Subscript) and isinstance(part.ctx, ast.Store):
            found.append(part.value)
        if isinstance(part, ast.Call) and isinstance(part.func, ast.Attribute) and part.func.attr in CHANGES:
            found.append(part.func.value)
        if isinstance(part, ast.AugAssign):
            found.append(part.target)
    return [part.id for part in found if isinstance(part, ast.Name)]


def drawn_from(module):
    return [statement for statement in module.body if isinstance(statement, ast.ImportFrom)]


class TestFiles(unittest.TestCase):
    def test_the_package_has_files_to_look_at(self):
        self.assertIn("vaults.py", [path.name for path in sources()])

    def test_nothing_else_lies_in_the_package(self):
        for path in PACKAGE.rglob("*"):
            if "__pycache__" not in path.parts:
                self.assertRegex(path.name, r"\A([a-z][a-z0-9_]*|__init__)\.py\Z")

    def test_signs_and_sizes(self):
        for path in sources():
            text = path.read_bytes().decode("ascii")
            rows = text.split("\n")
            with self.subTest(file=path.name):
                self.assertRegex(text, r"\A[\n -~]*\Z")
                self.assertLessEqual(len(rows), 400)
                self.assertLessEqual(max([len(row) for row in rows]), 120)
                self.assertIsNone(WORDS_OUT.search(text))

    def test_functions_are_small(self):
        for file, node in nodes():
            if isinstance(node, ast.FunctionDef):
                self.assertLessEqual(node.end_lineno - node.lineno + 1, 40, f"{file}: {node.name}")


class TestImports(unittest.TestCase):
    def test_names_come_from_the_file_that_defines_them(self):
        homes = {f"strata.{name[:-3]}": defined(module) for name, module in parsed()}
        for file, module in parsed():
            for row in drawn_from(module):
                self.assertEqual(row.level, 0, file)
                for alias in row.names:
                    self.assertIn(alias.name, homes[row.module], file)

    def test_no_two_files_draw_from_one_another(self):
        left = {f"strata.{name[:-3]}": {row.module for row in drawn_from(module)} for name, module in parsed()}
        while left:
            free = [name for name in left if not left[name] & set(left)]
            self.assertTrue(free, sorted(left))
            left = {name: left[name] for name in left if name not in free}

    def test_the_top_of_a_file(self):
        for file, module in parsed():
            names = defined(module)
            self.assertIsNotNone(ast.get_docstring(module), file)
            self.assertEqual(len(names), len(set(names)), file)
            for statement in module.body[1:]:
                self.assertIsInstance(statement, (ast.ImportFrom, ast.FunctionDef, ast.ClassDef, ast.Assign), file)


class TestSyntax(unittest.TestCase):
    def test_only_the_small_part_of_the_language(self):
        for file, node in nodes():
            self.assertIn(node.__class__.__name__, NODES, f"{file}: {getattr(node, 'lineno', '')}")

    def test_values(self):
        for file, node in nodes():
            if isinstance(node, ast.Constant):
                self.assertIn(node.value.__class__, (int, str, bool, None.__class__), f"{file}: {node.lineno}")
                self.assertNotIn(chr(37), str(node.value), f"{file}: {node.lineno}")

    def test_functions_and_classes(self):
        for file, node in nodes():
            if isinstance(node, (ast.FunctionDef, ast.ClassDef)):
                self.assertEqual(node.decorator_list, [], f"{file}: {node.name}")
            if isinstance(node, ast.arguments):
                self.assertEqual([node.vararg, node.kwarg, node.kwonlyargs, node.posonlyargs], [None, None, [], []])
            if isinstance(node, ast.ClassDef):
                self.assertLessEqual(len(node.bases), 1, f"{file}: {node.name}")
                for statement in node.body:
                    self.assertIsInstance(statement, (ast.FunctionDef, ast.Pass), f"{file}: {node.name}")

    def test_statements(self):
        for file, node in nodes():
            if isinstance(node, ast.Assign):
                self.assertEqual(len(node.targets), 1, f"{file}: {node.lineno}")
            if isinstance(node, (ast.For, ast.While)):
                self.assertEqual(node.orelse, [], f"{file}: {node.lineno}")
            if isinstance(node, ast.Try):
                self.assertEqual(node.finalbody, [], f"{file}: {node.lineno}")
            if isinstance(node, ast.ExceptHandler):
                self.assertIsNotNone(node.type, f"{file}: {node.lineno}")
            if isinstance(node, ast.comprehension):
                self.assertLessEqual(len(node.ifs), 1, file)
            if isinstance(node, ast.ListComp):
                self.assertEqual(len(node.generators), 1, f"{file}: {node.lineno}")

    def test_is_stands_beside_none_and_truths(self):
        for file, node in nodes():
            if isinstance(node, ast.Compare):
                for operator, value in zip(node.ops, node.comparators):
                    if isinstance(operator, (ast.Is, ast.IsNot)):
                        self.assertIsInstance(value, ast.Constant, f"{file}: {node.lineno}")
                        self.assertIn(value.value.__class__, (bool, None.__class__), f"{file}: {node.lineno}")


class TestUses(unittest.TestCase):
    def test_what_is_walked_is_walked_at_once(self):
        takers = "list tuple dict sorted sum any all enumerate zip min max".split()
        for file, node, parent in with_parents():
            if is_walker(node):
                walked = isinstance(parent, (ast.For, ast.comprehension)) and parent.iter is node
                taken = (called(parent) in takers or is_join(parent)) and parent.args[0] is node
                self.assertTrue(walked or taken, f"{file}: {node.lineno}")

    def test_sets_are_made_on_the_spot(self):
        for file, node, parent in with_parents():
            if called(node) in ("set", "frozenset"):
                fine = isinstance(parent, (ast.Compare, ast.BinOp)) or called(parent) in ("sorted", "len")
                self.assertTrue(fine, f"{file}: {node.lineno}")
            if isinstance(node, ast.Set):
                self.assertIsInstance(parent, ast.Compare, f"{file}: {node.lineno}")

    def test_keywords(self):
        allowed = {
            "sorted": ("key", "reverse"), "min": ("key", "default"), "max": ("key", "default"), "sum": ("start",),
            "enumerate": ("start",), "zip": ("strict",),
        }
        for file, node in nodes():
            if called(node) in OWN_NAMES:
                for keyword in node.keywords:
                    self.assertIn(keyword.arg, allowed.get(called(node), ()), f"{file}: {node.lineno}")

    def test_no_local_is_called_like_an_import_or_a_class(self):
        for file, module in parsed():
            taken = [alias.name for row in drawn_from(module) for alias in row.names]
            taken += [part.name for part in module.body if isinstance(part, ast.ClassDef)]
            for node in ast.walk(module):
                if isinstance(node, ast.arg):
                    self.assertNotIn(node.arg, taken, f"{file}: {node.lineno}")
                if isinstance(node, ast.Name) and isinstance(node.ctx, ast.Store):
                    self.assertNotIn(node.id, taken, f"{file}: {node.lineno}")

    def test_what_a_loop_walks_is_not_changed_in_it(self):
        for file, node in nodes():
            if isinstance(node, ast.For):
                for name in walked_names(node.iter):
                    changed = [other for statement in node.body for other in changed_names(statement)]
                    self.assertNotIn(name, changed, f"{file}: {node.lineno}")

    def test_python_s_own_functions_are_called_where_they_stand(self):
        for file, node, parent in with_parents():
            if isinstance(node, ast.Name) and hasattr(builtins, node.id):
                called_here = isinstance(parent, ast.Call) and parent.func is node
                base = isinstance(parent, ast.ClassDef) or isinstance(parent, ast.keyword) and parent.arg == "key"
                self.assertTrue(called_here or base, f"{file}: {node.lineno}")

    def test_own_methods_are_called_where_they_stand(self):
        known = package_methods() + OWN_METHODS
        for file, node, parent in with_parents():
            if isinstance(node, ast.Attribute) and node.attr in known and isinstance(node.ctx, ast.Load):
                self.assertTrue(isinstance(parent, ast.Call) and parent.func is node, f"{file}: {node.lineno}")

    def test_no_keyword_at_a_method_or_an_error_class(self):
        for file, node in nodes():
            if isinstance(node, ast.Call) and (isinstance(node.func, ast.Attribute) or called(node) in classes()):
                self.assertEqual(node.keywords, [], f"{file}: {node.lineno}")

    def test_texts_in_texts_are_plain_names(self):
        for file, node in nodes():
            if isinstance(node, ast.FormattedValue):
                self.assertIsInstance(node.value, ast.Name, f"{file}: {node.lineno}")
                self.assertIsNone(node.format_spec, f"{file}: {node.lineno}")

    def test_powers_have_a_written_exponent(self):
        for file, node in nodes():
            if isinstance(node, ast.BinOp) and isinstance(node.op, ast.Pow):
                self.assertIsInstance(node.right, ast.Constant, f"{file}: {node.lineno}")

    def test_no_annotations_and_plain_defaults(self):
        for file, node in nodes():
            if isinstance(node, ast.FunctionDef):
                self.assertIsNone(node.returns, f"{file}: {node.name}")
            if isinstance(node, ast.arg):
                self.assertIsNone(node.annotation, f"{file}: {node.arg}")
            if isinstance(node, ast.arguments):
                for value in node.defaults:
                    self.assertIsInstance(value, ast.Constant, file)

    def test_names_of_a_file_s_top_have_plain_values(self):
        for file, module in parsed():
            for statement in module.body:
                if isinstance(statement, ast.Assign):
                    self.assertIsInstance(statement.value, ast.Constant, f"{file}: {statement.lineno}")

    def test_escapes(self):
        for path in sources():
            for escape in re.findall(r"\\(.)", path.read_text(encoding="utf-8")):
                self.assertIn(escape, "nt\\'\"", path.name)


class TestClasses(unittest.TestCase):
    def test_a_class_is_called_or_a_base_or_stands_by_except(self):
        handled = [node for file, module in parsed() for node in named_by_handlers(module)]
        for file, node, parent in with_parents():
            if isinstance(node, ast.Name) and node.id in classes():
                stands = isinstance(parent, ast.ClassDef) or called(parent) == node.id or node in handled
                self.assertTrue(stands, f"{file}: {node.lineno}")

    def test_no_method_stands_twice(self):
        methods = [name for name in package_methods() if name not in SPECIAL]
        self.assertEqual(len(methods), len(set(methods)))

    def test_names_of_methods_and_values_are_free(self):
        taken = of_python_s_own_values() - set(object.__dict__)
        for name in package_methods():
            if name not in OWN_METHODS + ["add", "discard"]:
                self.assertNotIn(name, taken - set(SPECIAL))
        for file, node in nodes():
            if isinstance(node, ast.Attribute) and isinstance(node.ctx, ast.Store) and node.attr not in VALUES_FREE:
                self.assertNotIn(node.attr, list(taken) + ["args"], f"{file}: {node.lineno}")

    def test_values_are_given_through_a_local_name(self):
        for file, module in parsed():
            for node in ast.walk(module):
                if isinstance(node, ast.Attribute) and isinstance(node.ctx, ast.Store):
                    self.assertIsInstance(node.value, ast.Name, f"{file}: {node.lineno}")
                    self.assertNotIn(node.value.id, defined(module), f"{file}: {node.lineno}")

    def test_an_init_gives_back_nothing_and_no_other_special_method_stands(self):
        for file, node in nodes():
            if isinstance(node, ast.FunctionDef) and node.name.startswith("__"):
                self.assertEqual(node.name, "__init__", file)
                self.assertFalse([part for part in ast.walk(node) if isinstance(part, ast.Return)], file)


class TestErrors(unittest.TestCase):
    def test_only_errors_of_the_program_s_own_are_taken(self):
        for file, module in parsed():
            for node in named_by_handlers(module):
                self.assertIn(node.id, classes(), f"{file}: {node.lineno}")

    def test_an_error_is_made_on_the_spot(self):
        for file, node in nodes():
            if isinstance(node, ast.Raise):
                self.assertIn(called(node.exc), classes(), f"{file}: {node.lineno}")
                if node.cause is not None:
                    self.assertIsInstance(node.cause, (ast.Name, ast.Constant), f"{file}: {node.lineno}")


class TestNames(unittest.TestCase):
    def bound(self, module):
        names = defined(module) + [alias.name for row in drawn_from(module) for alias in row.names]
        for node in ast.walk(module):
            if isinstance(node, ast.FunctionDef):
                names.append(node.name)
            if isinstance(node, ast.arg):
                names.append(node.arg)
            if isinstance(node, ast.Name) and isinstance(node.ctx, ast.Store):
                names.append(node.id)
            if isinstance(node, ast.ExceptHandler) and node.name:
                names.append(node.name)
        return names

    def test_bound_names_are_plain(self):
        for file, module in parsed():
            for name in self.bound(module):
                if name not in SPECIAL:
                    self.assertRegex(name, r"\A[A-Za-z][A-Za-z0-9_]*\Z", file)
                    self.assertNotIn(name, dir(builtins), file)
                    self.assertNotIn(name, NAMES_OUT, file)

    def test_read_names_are_bound_or_python_s_own(self):
        for file, module in parsed():
            known = self.bound(module) + OWN_NAMES
            for node in ast.walk(module):
                if isinstance(node, ast.Name):
                    self.assertIn(node.id, known, f"{file}: {node.lineno}")

    def test_called_methods(self):
        known = package_methods() + OWN_METHODS
        for file, node in nodes():
            if isinstance(node, ast.Call) and isinstance(node.func, ast.Attribute):
                self.assertIn(node.func.attr, known, f"{file}: {node.lineno}")

    def test_a_value_is_no_method_elsewhere(self):
        taken = package_methods() + NAMES_OUT
        for file, node in nodes():
            if isinstance(node, ast.Attribute) and isinstance(node.ctx, ast.Store):
                self.assertNotIn(node.attr, taken, f"{file}: {node.lineno}")
