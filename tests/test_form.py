"""The program's form: what of its rules a reader of its files can see."""

import ast
import builtins
import keyword
import pathlib
import re
import sys
import unittest

import washloads

PACKAGE = pathlib.Path(washloads.__file__).parent
FILES = sorted(path for path in PACKAGE.rglob("*") if "__pycache__" not in path.parts)

STATEMENTS = (ast.FunctionDef, ast.ClassDef, ast.Assign, ast.AugAssign, ast.If, ast.While, ast.For, ast.Return,
              ast.Break, ast.Continue, ast.Pass, ast.Raise, ast.Try, ast.Expr, ast.ImportFrom)
EXPRESSIONS = (ast.Constant, ast.List, ast.Tuple, ast.Dict, ast.Set, ast.BinOp, ast.UnaryOp, ast.BoolOp, ast.Compare,
               ast.IfExp, ast.Call, ast.Attribute, ast.Subscript, ast.Slice, ast.ListComp, ast.JoinedStr,
               ast.FormattedValue, ast.Name, ast.Lambda)
BUILTINS = set("""len range enumerate zip min max sum abs sorted reversed int str bool list tuple dict set frozenset
    isinstance ord repr any all divmod Exception ValueError TypeError KeyError IndexError LookupError
    ZeroDivisionError ArithmeticError OverflowError RuntimeError NotImplementedError AttributeError
    StopIteration""".split())
METHODS = set("""append clear copy count endswith extend find get index insert isalnum isalpha isdigit islower isspace
    isupper items join keys ljust lower lstrip partition pop remove replace reverse rfind rjust rpartition rsplit
    rstrip setdefault split splitlines startswith strip update upper values zfill bit_length""".split())
NOWHERE = set("register mro elements open input version_info with_traceback add_note format format_map".split())
NOT_NAMES = set("""attrgetter breakpoint builtins compile copyright credits delattr dir eval exec exit gc getattr
    globals hasattr help id importlib license locals methodcaller os quit setattr super type vars sys
    __name__""".split())
WORDS = """type typing typing_extensions enum Enum IntEnum StrEnum Flag IntFlag Generic Protocol ABC ABCMeta
    namedtuple NamedTuple TypedDict TYPE_CHECKING abstractmethod""".split()
PARTS = ("dataclass", "overload", "contextmanager")
WALKS = ("zip", "enumerate", "reversed", "range")
WALKERS = ("list", "tuple", "dict", "sorted", "sum", "any", "all", "enumerate", "zip", "min", "max")
OWN_OF_PYTHON = set(dir(builtins)) | set(keyword.kwlist)
VALUE_NAMES = {name for kind in (str, int, list, dict, set, bytes, tuple) for name in dir(kind)}


def trees():
    return [(path, ast.parse(path.read_text(encoding="utf-8"))) for path in FILES]


def nodes(kind):
    return [(path, node) for path, tree in trees() for node in ast.walk(tree) if isinstance(node, kind)]


def top_names(tree):
    names = []
    for row in tree.body:
        if isinstance(row, (ast.FunctionDef, ast.ClassDef)):
            names.append(row.name)
        elif isinstance(row, ast.Assign):
            names.append(row.targets[0].id)
        elif isinstance(row, ast.ImportFrom):
            names.extend(alias.name for alias in row.names)
    return names


def plain_value(node, above, depth=0):
    if isinstance(node, ast.Constant):
        return node.value is None or type(node.value) in (int, str, bool)
    if isinstance(node, ast.UnaryOp):
        return isinstance(node.op, ast.USub) and plain_value(node.operand, above, depth)
    if isinstance(node, ast.Name):
        return depth > 0 and node.id in above
    if isinstance(node, ast.Tuple) or isinstance(node, ast.List) and depth == 0:
        return all(plain_value(part, above, depth + 1) for part in node.elts)
    if isinstance(node, ast.Dict) and depth == 0:
        return all(plain_value(part, above, depth + 1) for part in [*node.keys, *node.values])
    return False


class Files(unittest.TestCase):
    def test_one_package_of_python_files(self):
        self.assertIn(PACKAGE / "__init__.py", FILES)
        for path in FILES:
            self.assertRegex(path.relative_to(PACKAGE).as_posix(), r"^(__init__|[a-z][a-z0-9_]*)\.py$")
            self.assertNotIn(path.stem, OWN_OF_PYTHON | NOWHERE | NOT_NAMES | set(WORDS) | set(sys.stdlib_module_names))
            self.assertNotRegex(path.stem, r"^(test|tests|testing|test_.*|site|conftest|sitecustomize|usercustomize)$")

    def test_signs_and_sizes(self):
        for path in FILES:
            text = path.read_text(encoding="utf-8")
            self.assertRegex(text, r"\A[ -~\n]*\Z", path)
            rows = text.split("\n")
            self.assertLessEqual(len(rows), 399, path)
            self.assertLessEqual(max(len(row) for row in rows), 120, path)
            for word in re.findall(r"\w+", text):
                self.assertNotIn(word, WORDS, path)
                self.assertFalse([part for part in PARTS if part in word], path)

    def test_functions_are_short(self):
        for path, node in nodes(ast.FunctionDef):
            self.assertLessEqual(node.end_lineno - node.lineno + 1, 40, (path, node.name))


class Tops(unittest.TestCase):
    def test_rows_of_the_top(self):
        for path, tree in trees():
            self.assertIsNotNone(ast.get_docstring(tree), path)
            above = set()
            for row in tree.body[1:]:
                self.assertIsInstance(row, (ast.ImportFrom, ast.FunctionDef, ast.ClassDef, ast.Assign), path)
                if isinstance(row, ast.FunctionDef):
                    above.add(row.name)
                if isinstance(row, ast.Assign):
                    self.assertIsInstance(row.targets[0], ast.Name, path)
                    self.assertTrue(plain_value(row.value, above), (path, row.lineno))

    def test_each_name_once(self):
        for path, tree in trees():
            names = top_names(tree)
            self.assertEqual(len(names), len(set(names)), path)

    def test_imports(self):
        drawn = {}
        defined = {}
        used = {}
        for path, tree in trees():
            used[f"washloads.{path.stem}"] = {node.id for node in ast.walk(tree) if isinstance(node, ast.Name)}
            imports = [node for node in ast.walk(tree) if isinstance(node, (ast.Import, ast.ImportFrom))]
            self.assertTrue(all(row in tree.body and isinstance(row, ast.ImportFrom) for row in imports), path)
            imported = [alias.name for row in imports for alias in row.names]
            defined[f"washloads.{path.stem}"] = set(top_names(tree)) - set(imported)
            drawn[f"washloads.{path.stem}"] = [(row.module, alias.name) for row in imports for alias in row.names]
            for row in imports:
                self.assertEqual(row.level, 0)
                self.assertTrue(all(alias.asname is None for alias in row.names))
        for name, rows in drawn.items():
            for module, alias in rows:
                self.assertIn(alias, defined[module], name)
            self.assertLessEqual({alias for module, alias in rows}, used[name], name)
        self.in_a_row(drawn)

    def in_a_row(self, drawn):
        left = {name: {module for module, alias in rows} for name, rows in drawn.items()}
        while left:
            free = [name for name, modules in left.items() if not modules & set(left)]
            self.assertTrue(free, f"files draw from one another: {sorted(left)}")
            for name in free:
                left.pop(name)

    def test_the_interface_stands_once(self):
        holders = [path.name for path, tree in trees() for row in tree.body
                   if isinstance(row, (ast.FunctionDef, ast.ClassDef)) and row.name == "answers"]
        self.assertEqual(holders, ["laundry.py"])
        given = [node.args for path, node in nodes(ast.FunctionDef) if node.name == "answers"][0]
        self.assertEqual([arg.arg for arg in given.args], ["calls"])
        self.assertEqual(given.defaults, [])


class Parts(unittest.TestCase):
    def test_statements_and_expressions(self):
        for path, node in nodes((ast.stmt, ast.expr)):
            self.assertIsInstance(node, STATEMENTS + EXPRESSIONS, (path, node.lineno))

    def test_statements_more_closely(self):
        for path, tree in trees():
            for node in ast.walk(tree):
                if isinstance(node, ast.Assign):
                    self.assertEqual(len(node.targets), 1, (path, node.lineno))
                if isinstance(node, (ast.For, ast.While)):
                    self.assertEqual(node.orelse, [], (path, node.lineno))
                if isinstance(node, ast.Expr) and node != tree.body[0]:
                    self.assertIsInstance(node.value, ast.Call, (path, node.lineno))
                if isinstance(node, ast.Try):
                    self.assertEqual(node.finalbody, [], (path, node.lineno))

    def test_functions_and_classes(self):
        for path, node in nodes((ast.FunctionDef, ast.Lambda)):
            given = node.args
            self.assertFalse(given.vararg or given.kwarg or given.kwonlyargs or given.posonlyargs, path)
            self.assertFalse(getattr(node, "decorator_list", []), path)
        for path, node in nodes(ast.ClassDef):
            self.assertTrue(all(isinstance(row, ast.FunctionDef) for row in node.body), (path, node.name))
            methods = [row.name for row in node.body]
            self.assertEqual(len(methods), len(set(methods)), (path, node.name))
            self.assertFalse(node.decorator_list or node.keywords or len(node.bases) > 1, (path, node.name))

    def test_values_and_signs(self):
        for path, node in nodes(ast.Constant):
            self.assertIn(type(node.value), (int, str, bool, type(None)), (path, node.lineno))
            if isinstance(node.value, str):
                self.assertNotIn("%", node.value, (path, node.lineno))
        for path, node in nodes((ast.Div, ast.MatMult)):
            self.fail(f"{path}: a sign that isn't used")
        for path, node in nodes(ast.Compare):
            for sign, value in zip(node.ops, node.comparators):
                if isinstance(sign, (ast.Is, ast.IsNot)):
                    self.assertTrue(isinstance(value, ast.Constant) and value.value in (None, True, False), path)
        for path, node in nodes(ast.FormattedValue):
            self.assertIsInstance(node.value, ast.Name, (path, node.lineno))
            self.assertIsNone(node.format_spec, (path, node.lineno))
        for path, node in nodes(ast.ListComp):
            self.assertEqual(len(node.generators), 1, (path, node.lineno))
            self.assertLessEqual(len(node.generators[0].ifs), 1, (path, node.lineno))

    def test_walked_at_once(self):
        for path, tree in trees():
            on_the_spot = set()
            for node in ast.walk(tree):
                if isinstance(node, (ast.For, ast.comprehension)):
                    on_the_spot.add(node.iter)
                if isinstance(node, ast.Call) and isinstance(node.func, ast.Name) and node.func.id in WALKERS:
                    on_the_spot.update(node.args[:1])
            for node in ast.walk(tree):
                if isinstance(node, ast.Call) and isinstance(node.func, ast.Name) and node.func.id in WALKS:
                    self.assertIn(node, on_the_spot, (path, node.lineno))


class Names(unittest.TestCase):
    def test_names_are_plain(self):
        for path, tree in trees():
            for node in ast.walk(tree):
                name = getattr(node, "id", None) or getattr(node, "arg", None) or getattr(node, "attr", None)
                name = name or getattr(node, "name", None)
                if isinstance(name, str):
                    self.assertRegex(name, r"^([A-Za-z][A-Za-z0-9_]*|__init__)$", path)
                    self.assertNotIn(name, NOWHERE, path)

    def test_bound_names_are_not_python_s_own(self):
        for path, tree in trees():
            classes_and_imports = [node.name for node in tree.body if isinstance(node, ast.ClassDef)]
            classes_and_imports += [alias.name for node in tree.body if isinstance(node, ast.ImportFrom)
                                    for alias in node.names]
            for node in ast.walk(tree):
                bound = node.id if isinstance(node, ast.Name) and isinstance(node.ctx, ast.Store) else None
                bound = node.arg if isinstance(node, ast.arg) else bound
                if bound is not None:
                    self.assertNotIn(bound, OWN_OF_PYTHON | NOT_NAMES, (path, node.lineno))
                    self.assertNotIn(bound, classes_and_imports, (path, node.lineno))
            for name in top_names(tree):
                self.assertNotIn(name, OWN_OF_PYTHON | NOT_NAMES, path)

    def test_only_python_s_own_names_that_are_listed(self):
        for path, tree in trees():
            known = set(top_names(tree))
            for node in ast.walk(tree):
                if isinstance(node, ast.Name) and isinstance(node.ctx, ast.Store):
                    known.add(node.id)
                if isinstance(node, ast.arg):
                    known.add(node.arg)
            for node in ast.walk(tree):
                if isinstance(node, ast.Name) and node.id not in known:
                    self.assertIn(node.id, BUILTINS, (path, node.lineno))

    def test_methods_and_values(self):
        methods = {row.name for path, node in nodes(ast.ClassDef) for row in node.body}
        values = {node.attr for path, node in nodes(ast.Attribute) if isinstance(node.ctx, ast.Store)}
        self.assertEqual(methods & values, set())
        self.assertEqual((methods - {"__init__"}) & VALUE_NAMES, set())
        self.assertEqual(values & VALUE_NAMES, set())
        for path, node in nodes(ast.Attribute):
            self.assertIn(node.attr, methods | values | METHODS, (path, node.lineno))
        for path, tree in trees():
            calls = {id(node.func) for node in ast.walk(tree) if isinstance(node, ast.Call)}
            for node in ast.walk(tree):
                if isinstance(node, ast.Attribute) and node.attr in (methods | METHODS) - values:
                    self.assertIn(id(node), calls, (path, node.lineno))

    def test_no_class_is_kept_or_handed_on(self):
        classes = {node.name for path, node in nodes(ast.ClassDef)}
        for path, tree in trees():
            called = {id(node.func) for node in ast.walk(tree) if isinstance(node, ast.Call)}
            for node in ast.walk(tree):
                if isinstance(node, ast.Name) and node.id in classes:
                    self.assertIn(id(node), called, (path, node.lineno))
