"""The plainer ones of the rules of the language that the package keeps to."""

import ast
import builtins
import pathlib
import re
import unittest

PACKAGE = pathlib.Path(__file__).resolve().parent.parent / "wokenlives"

ALLOWED_BUILTINS = set(
    "len range enumerate zip iter min max sum abs sorted reversed int str bool bytes list tuple dict set frozenset isinstance "
    "ord repr any all divmod pow super Exception ValueError TypeError KeyError IndexError LookupError "
    "ZeroDivisionError ArithmeticError OverflowError RuntimeError NotImplementedError".split()
)
ALLOWED_METHODS = set(
    "append clear copy count endswith extend find get index insert isalnum isalpha isdigit islower isspace isupper items "
    "join keys ljust lower lstrip partition pop remove replace reverse rfind rjust rpartition rsplit rstrip setdefault "
    "split splitlines startswith strip update upper values zfill add discard".split()
)
BARRED_NAMES = set("register mro elements open input law version_info with_traceback add_note".split())
BARRED_VARIABLES = set(
    "attrgetter breakpoint builtins compile copyright credits delattr dir eval exec exit gc getattr globals hasattr help id "
    "importlib license locals methodcaller os quit setattr super type vars sys".split()
)
BARRED_WORDS = re.compile(
    r"\b(type|typing|typing_extensions|enum|Enum|IntEnum|StrEnum|Flag|IntFlag|Generic|Protocol|ABC|ABCMeta|namedtuple|"
    r"NamedTuple|TypedDict|TYPE_CHECKING|abstractmethod|_wall|_WallAttr)\b|dataclass|overload|contextmanager"
)
DOUBLE = set("__init__ __eq__ __repr__ __str__ __len__ __iter__ __contains__".split())


def files():
    return sorted(PACKAGE.rglob("*.py"))


def trees():
    return [(path, ast.parse(path.read_text(encoding="utf-8"))) for path in files()]


def functions(tree):
    return [node for node in ast.walk(tree) if isinstance(node, ast.FunctionDef)]


def stored_names(node):
    """All names of variables and parameters that are bound inside of a function."""
    found = [part.id for part in ast.walk(node) if isinstance(part, ast.Name) and isinstance(part.ctx, ast.Store)]
    found += [part.arg for part in ast.walk(node) if isinstance(part, ast.arg)]
    found += [part.name for part in ast.walk(node) if isinstance(part, ast.ExceptHandler) and part.name]
    return found


def module_names(tree):
    found = []
    for node in tree.body:
        if isinstance(node, ast.ImportFrom):
            found += [name.asname or name.name for name in node.names]
        if isinstance(node, (ast.FunctionDef, ast.ClassDef)):
            found.append(node.name)
        if isinstance(node, ast.Assign):
            found += [target.id for target in node.targets]
    return found


def docstrings(tree):
    found = []
    for node in ast.walk(tree):
        if isinstance(node, (ast.Module, ast.FunctionDef, ast.ClassDef)) and node.body:
            first = node.body[0]
            if isinstance(first, ast.Expr) and isinstance(first.value, ast.Constant):
                found.append(first.value)
    return found


class FilesTest(unittest.TestCase):
    def test_only_plain_files(self):
        for path in PACKAGE.rglob("*"):
            if "__pycache__" not in path.parts:
                self.assertRegex(path.name, r"\A([a-z][a-z0-9_]*|__init__)\.py\Z")
                self.assertNotIn(path.stem, dir(builtins))

    def test_sizes_and_characters(self):
        for path in files():
            text = path.read_text(encoding="utf-8")
            self.assertRegex(text, r"\A[ -~\n]*\Z", path)
            rows = text.split("\n")
            self.assertLess(len(rows) - 1, 400, path)
            for row in rows:
                self.assertLessEqual(len(row), 120, path)

    def test_functions_are_small(self):
        for path, tree in trees():
            for node in functions(tree):
                self.assertLessEqual(node.end_lineno - node.lineno + 1, 40, (path, node.name))


class ModulesTest(unittest.TestCase):
    def test_only_plain_statements_at_module_level(self):
        for path, tree in trees():
            for at, node in enumerate(tree.body):
                doc = at == 0 and isinstance(node, ast.Expr) and isinstance(node.value, ast.Constant)
                plain = isinstance(node, (ast.ImportFrom, ast.FunctionDef, ast.ClassDef, ast.Assign))
                self.assertTrue(doc or plain, (path, node.lineno))
            names = module_names(tree)
            self.assertEqual(len(names), len(set(names)), path)

    def test_tables_hold_functions_of_their_own_file(self):
        for path, tree in trees():
            own = [node.name for node in tree.body if isinstance(node, ast.FunctionDef)]
            for node in tree.body:
                if isinstance(node, ast.Assign):
                    for part in ast.walk(node.value):
                        if isinstance(part, ast.Name):
                            self.assertIn(part.id, own, (path, node.lineno))

    def test_imports_name_the_defining_file_without_rings(self):
        defined = {f"wokenlives.{path.stem}": tree for path, tree in trees()}
        ways = {name: [] for name in defined}
        for name, tree in defined.items():
            for node in ast.walk(tree):
                self.assertNotIsInstance(node, ast.Import, name)
                if isinstance(node, ast.ImportFrom):
                    self.assertIn(node, tree.body)
                    own = [part for part in defined[node.module].body if not isinstance(part, ast.ImportFrom)]
                    known = module_names(ast.Module(body=own, type_ignores=[]))
                    for part in node.names:
                        self.assertIn(part.name, known, (name, part.name))
                        self.assertIsNone(part.asname)
                    ways[name].append(node.module)
        self.assertEqual(len(self.in_order(ways)), len(ways))

    def in_order(self, ways):
        done = []
        while True:
            ready = [name for name in ways if name not in done and all(way in done for way in ways[name])]
            if not ready:
                return done
            done.extend(ready)

    def test_imported_names_are_used(self):
        for path, tree in trees():
            used = [node.id for node in ast.walk(tree) if isinstance(node, ast.Name)]
            for node in tree.body:
                if isinstance(node, ast.ImportFrom):
                    for part in node.names:
                        self.assertIn(part.name, used, path)


class NamesTest(unittest.TestCase):
    def test_only_known_names_are_read(self):
        for path, tree in trees():
            known = set(module_names(tree)) | ALLOWED_BUILTINS
            for node in tree.body:
                inside = known | set(stored_names(node))
                for part in ast.walk(node):
                    if isinstance(part, ast.Name) and isinstance(part.ctx, ast.Load):
                        self.assertIn(part.id, inside, (path, part.lineno))

    def test_no_name_has_another_meaning(self):
        for path, tree in trees():
            taken = set(dir(builtins)) | BARRED_NAMES | BARRED_VARIABLES
            imported = [part.name for node in tree.body if isinstance(node, ast.ImportFrom) for part in node.names]
            classes = [node.name for node in tree.body if isinstance(node, ast.ClassDef)]
            for name in module_names(tree):
                self.assertNotIn(name, taken, path)
            for node in functions(tree):
                for name in stored_names(node):
                    self.assertNotIn(name, taken, (path, node.name))
                    self.assertNotIn(name, imported + classes, (path, node.name))
                    self.assertRegex(name, r"\A(_|_?[A-Za-z][A-Za-z0-9_]*)\Z")

    def test_attributes_and_methods(self):
        own = {node.name for _, tree in trees() for node in functions(tree)}
        assigned = {part.attr for _, tree in trees() for part in ast.walk(tree)
                    if isinstance(part, ast.Attribute) and isinstance(part.ctx, ast.Store)}
        builtin = {name for kind in (str, int, list, dict, set, bytes, tuple) for name in dir(kind)}
        for name in assigned:
            self.assertNotIn(name, builtin | BARRED_NAMES)
        for path, tree in trees():
            for node in ast.walk(tree):
                if isinstance(node, ast.Attribute):
                    known = own | assigned | ALLOWED_METHODS
                    self.assertIn(node.attr, known, (path, node.lineno))
            for node in tree.body:
                if isinstance(node, ast.ClassDef):
                    self.check_methods(node, builtin)

    def check_methods(self, node, builtin):
        names = [part.name for part in functions(node)]
        self.assertEqual(len(names), len(set(names)))
        for name in names:
            self.assertTrue(name in DOUBLE or name not in builtin | BARRED_NAMES, name)
            self.assertTrue(name in DOUBLE or not name.startswith("__"), name)

    def test_barred_words(self):
        for path, tree in trees():
            left = docstrings(tree)
            for node in ast.walk(tree):
                if isinstance(node, ast.Constant) and isinstance(node.value, str) and node not in left:
                    self.assertIsNone(BARRED_WORDS.search(node.value), (path, node.lineno))
                if isinstance(node, ast.Name):
                    self.assertIsNone(BARRED_WORDS.search(node.id), (path, node.lineno))
                if isinstance(node, ast.keyword):
                    self.assertNotIn(node.arg, BARRED_NAMES)


class FormsTest(unittest.TestCase):
    BARRED = (ast.AsyncFunctionDef, ast.Global, ast.Await, ast.Yield, ast.YieldFrom, ast.Div, ast.MatMult, ast.Lambda)

    def test_no_barred_forms(self):
        for path, tree in trees():
            for node in ast.walk(tree):
                self.assertNotIsInstance(node, self.BARRED, (path, getattr(node, "lineno", 0)))
                if isinstance(node, (ast.FunctionDef, ast.ClassDef)):
                    self.assertEqual(node.decorator_list, [])
                if isinstance(node, ast.Constant):
                    self.assertNotIsInstance(node.value, (float, complex))
                    if isinstance(node.value, str):
                        self.assertNotIn("%", node.value, path)

    def test_is_stands_beside_none_alone(self):
        for path, tree in trees():
            for node in ast.walk(tree):
                if isinstance(node, ast.Compare):
                    for sign, part in zip(node.ops, node.comparators):
                        if isinstance(sign, (ast.Is, ast.IsNot)):
                            self.assertIsInstance(part, ast.Constant, (path, node.lineno))
                            self.assertIn(part.value, (None, True, False))

    def test_errors_are_created_on_the_spot_and_caught_by_name(self):
        for path, tree in trees():
            for node in ast.walk(tree):
                if isinstance(node, ast.Raise) and node.exc is not None:
                    self.assertIsInstance(node.exc, ast.Call, (path, node.lineno))
                    self.assertIsInstance(node.exc.func, ast.Name, (path, node.lineno))
                if isinstance(node, ast.ExceptHandler):
                    self.assertIsInstance(node.type, ast.Name, (path, node.lineno))
                    self.assertNotIn(node.type.id, ("Exception", "TypeError", "AttributeError", "RuntimeError"))

    def test_only_plain_assignments_in_the_end(self):
        for path, tree in trees():
            for node in ast.walk(tree):
                for row in getattr(node, "finalbody", []):
                    self.assertIsInstance(row, ast.Assign, (path, row.lineno))
                    self.assertIsInstance(row.value, (ast.Name, ast.Attribute, ast.Constant), (path, row.lineno))

    def test_no_strings_inside_of_braces(self):
        for path, tree in trees():
            for node in ast.walk(tree):
                if isinstance(node, ast.FormattedValue):
                    inside = [part for part in ast.walk(node.value) if isinstance(part, (ast.Constant, ast.JoinedStr))]
                    texts = [part for part in inside if isinstance(getattr(part, "value", ""), str)]
                    self.assertEqual(texts, [], (path, node.lineno))

    def test_sets_are_not_used(self):
        for path, tree in trees():
            for node in ast.walk(tree):
                self.assertNotIsInstance(node, (ast.Set, ast.SetComp), (path, getattr(node, "lineno", 0)))

    def test_iterators_are_not_kept(self):
        for path, tree in trees():
            for node in ast.walk(tree):
                if isinstance(node, (ast.Assign, ast.Return)) and isinstance(node.value, ast.Call):
                    called = node.value.func
                    name = called.id if isinstance(called, ast.Name) else getattr(called, "attr", "")
                    self.assertNotIn(name, ("zip", "enumerate", "reversed", "items", "keys", "values"), path)

    def test_no_loop_modifies_what_it_goes_over(self):
        for path, tree in trees():
            for node in ast.walk(tree):
                if isinstance(node, ast.For):
                    over = {ast.unparse(part) for part in ast.walk(node.iter) if isinstance(part, (ast.Name, ast.Attribute))}
                    for row in node.body:
                        for part in ast.walk(row):
                            if isinstance(part, ast.Call) and isinstance(part.func, ast.Attribute):
                                if part.func.attr in ("append", "extend", "pop", "insert", "remove", "clear", "update"):
                                    self.assertNotIn(ast.unparse(part.func.value), over, (path, part.lineno))

    def test_nothing_is_added_to_what_it_is_read_from(self):
        for path, tree in trees():
            for node in ast.walk(tree):
                if isinstance(node, ast.AugAssign):
                    self.check_apart(path, node.target, [node.value])
                if isinstance(node, ast.Call) and isinstance(node.func, ast.Attribute):
                    if node.func.attr in ("extend", "update"):
                        self.check_apart(path, node.func.value, node.args)

    def check_apart(self, path, changed, parts):
        while isinstance(changed, ast.Subscript):
            changed = changed.value
        for part in parts:
            self.assertNotIn(ast.unparse(changed), self.handed(part), (path, changed.lineno))

    def handed(self, part):
        """The names and attributes of an expression that are handed on themselves: a call hands on its answer."""
        if isinstance(part, ast.Call):
            return []
        found = [ast.unparse(part)] if isinstance(part, (ast.Name, ast.Attribute)) else []
        for inner in ast.iter_child_nodes(part):
            found.extend(self.handed(inner))
        return found


if __name__ == "__main__":
    unittest.main()
