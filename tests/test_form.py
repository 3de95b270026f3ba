"""The form of the package's files: the rows of LANGUAGE.md that can be seen by a look at the code."""

import ast
import builtins
import pathlib
import re
import unittest

import highfirst

FOLDER = pathlib.Path(highfirst.__file__).parent
STATEMENTS = (ast.Assign, ast.AugAssign, ast.If, ast.While, ast.For, ast.Return, ast.Break, ast.Continue, ast.Pass,
              ast.Raise, ast.Try, ast.Expr, ast.FunctionDef)
EXPRESSIONS = (ast.Constant, ast.List, ast.Tuple, ast.Dict, ast.BinOp, ast.UnaryOp, ast.Compare, ast.BoolOp,
               ast.IfExp, ast.Call, ast.Attribute, ast.Subscript, ast.Slice, ast.ListComp, ast.Name)
OPERATORS = (ast.Add, ast.Sub, ast.Mult, ast.FloorDiv, ast.Mod, ast.Pow, ast.BitAnd, ast.BitOr, ast.BitXor, ast.LShift,
             ast.RShift)
OWN_NAMES = ("len range enumerate zip min max sum abs sorted reversed int str bool list tuple dict set frozenset "
             "isinstance ord repr any all divmod Exception ValueError TypeError KeyError IndexError LookupError "
             "ZeroDivisionError ArithmeticError OverflowError RuntimeError NotImplementedError AttributeError "
             "StopIteration").split()
METHODS = ("append clear copy count endswith extend find get index insert isalnum isalpha isdigit islower isspace "
           "isupper items join keys ljust lower lstrip partition pop remove replace reverse rfind rjust rpartition "
           "rsplit rstrip setdefault split splitlines startswith strip update upper values zfill bit_length").split()
UNUSED_NAMES = ("register mro elements open input version_info with_traceback add_note attrgetter breakpoint builtins "
                "compile copyright credits delattr dir eval exec exit gc getattr globals hasattr help id importlib "
                "license locals methodcaller os quit setattr super type vars sys").split()
UNUSED_WORDS = ("type typing typing_extensions enum Enum IntEnum StrEnum Flag IntFlag Generic Protocol ABC ABCMeta "
                "namedtuple NamedTuple TypedDict TYPE_CHECKING abstractmethod").split()
UNUSED_PARTS = ("dataclass", "overload", "contextmanager")
WALKED = ("zip", "enumerate", "reversed", "range", "items", "keys", "values")
DUNDER_METHODS = ("__init__", "__eq__", "__repr__", "__str__", "__len__")
FILE_NAMES_NOT_USED = ("test", "tests", "testing", "site", "conftest", "sitecustomize", "usercustomize")


def files():
    return sorted(path for path in FOLDER.rglob("*") if "__pycache__" not in path.parts)


def trees():
    return {path.stem: ast.parse(path.read_text("ascii")) for path in files()}


def top_names(tree):
    names = []
    for node in tree.body:
        if isinstance(node, (ast.FunctionDef, ast.ClassDef)):
            names.append(node.name)
        elif isinstance(node, ast.Assign):
            names.append(node.targets[0].id)
    return names


def imports(tree):
    return [node for node in tree.body if isinstance(node, ast.ImportFrom)]


def is_plain(node, functions):
    if isinstance(node, ast.Constant):
        return node.value is None or type(node.value) in (int, str, bool)
    if isinstance(node, (ast.Tuple, ast.List)):
        return all(is_plain(part, functions) for part in node.elts)
    if isinstance(node, ast.Dict):
        return all(is_plain(part, functions) for part in node.keys + node.values)
    return isinstance(node, ast.Name) and node.id in functions


def own_methods():
    names = []
    for tree in trees().values():
        for node in ast.walk(tree):
            if isinstance(node, ast.ClassDef):
                names += [part.name for part in node.body]
    return names


class Files(unittest.TestCase):
    def test_names_of_files(self):
        self.assertIn(FOLDER / "__init__.py", files())
        for path in files():
            self.assertRegex(path.name, r"^[a-z0-9_]+\.py$")
            self.assertNotIn(path.stem, FILE_NAMES_NOT_USED + tuple(UNUSED_WORDS) + tuple(dir(builtins)))
            self.assertFalse(path.stem.startswith("test_"))

    def test_signs_and_sizes(self):
        for path in files():
            text = path.read_bytes()
            self.assertTrue(all(sign == 10 or 32 <= sign <= 126 for sign in text), path)
            rows = text.decode("ascii").split("\n")
            self.assertLessEqual(len(rows), 401, path)
            self.assertLessEqual(max(len(row) for row in rows), 120, path)

    def test_words_that_stand_nowhere(self):
        for path in files():
            text = path.read_text("ascii")
            found = re.findall(r"[A-Za-z0-9_]+", text)
            self.assertEqual([word for word in found if word in UNUSED_WORDS], [], path)
            self.assertEqual([part for part in UNUSED_PARTS if part in text], [], path)


class Tops(unittest.TestCase):
    def test_rows(self):
        for name, tree in trees().items():
            self.assertIsNotNone(ast.get_docstring(tree), name)
            functions = []
            for node in tree.body[1:]:
                if isinstance(node, ast.FunctionDef):
                    functions.append(node.name)
                elif isinstance(node, ast.Assign):
                    self.assertEqual(len(node.targets), 1)
                    self.assertTrue(is_plain(node.value, functions), (name, node.lineno))
                    self.check_no_nesting(node.value)
                else:
                    self.assertIsInstance(node, (ast.ImportFrom, ast.ClassDef), (name, node.lineno))

    def check_no_nesting(self, value):
        inner = [node for node in ast.walk(value) if node is not value]
        self.assertFalse(any(isinstance(node, (ast.List, ast.Dict)) for node in inner))

    def test_each_name_once(self):
        for name, tree in trees().items():
            drawn = [alias.name for node in imports(tree) for alias in node.names]
            bound = top_names(tree) + drawn
            self.assertEqual(len(bound), len(set(bound)), name)
            self.assertEqual([word for word in bound if word in dir(builtins)], [], name)

    def test_imports(self):
        all_trees = trees()
        for name, tree in all_trees.items():
            for node in imports(tree):
                self.assertEqual(node.level, 0)
                package, stem = node.module.split(".")
                self.assertEqual(package, "highfirst")
                for alias in node.names:
                    self.assertIsNone(alias.asname)
                    self.assertIn(alias.name, top_names(all_trees[stem]), name)

    def test_no_imports_in_a_ring(self):
        drawn = {}
        for name, tree in trees().items():
            drawn[name] = [node.module.split(".")[1] for node in imports(tree)]
        self.assertEqual(drawn["__init__"], [])
        while drawn:
            free = [name for name, others in drawn.items() if not any(other in drawn for other in others)]
            self.assertNotEqual(free, [], drawn)
            for name in free:
                del drawn[name]

    def test_lists_and_dicts_are_only_read(self):
        for name, tree in trees().items():
            kept = [node.targets[0].id for node in tree.body
                    if isinstance(node, ast.Assign) and isinstance(node.value, (ast.List, ast.Dict))]
            held = [alias.name for node in imports(tree) for alias in node.names]
            self.assertEqual([word for word in held if word.isupper() and word in self.all_kept()], [], name)
            allowed = self.readings(tree)
            for node in ast.walk(tree):
                if isinstance(node, ast.Name) and node.id in kept and isinstance(node.ctx, ast.Load):
                    self.assertIn(node, allowed, (name, node.lineno))

    def all_kept(self):
        return [node.targets[0].id for tree in trees().values() for node in tree.body
                if isinstance(node, ast.Assign) and isinstance(node.value, (ast.List, ast.Dict))]

    def readings(self, tree):
        found = []
        for node in ast.walk(tree):
            if isinstance(node, ast.Subscript) and isinstance(node.ctx, ast.Load):
                found.append(node.value)
            elif isinstance(node, ast.Compare):
                found += node.comparators
            elif isinstance(node, ast.Call) and isinstance(node.func, ast.Attribute) and node.func.attr == "get":
                found.append(node.func.value)
        return found


class Bodies(unittest.TestCase):
    def defs(self):
        for name, tree in trees().items():
            for node in ast.walk(tree):
                if isinstance(node, ast.FunctionDef):
                    yield name, node

    def test_functions(self):
        for name, node in self.defs():
            where = (name, node.name)
            self.assertLessEqual(node.end_lineno - node.lineno + 1, 40, where)
            self.assertEqual(node.decorator_list, [], where)
            given = node.args
            self.assertEqual((given.vararg, given.kwarg, given.kwonlyargs, given.posonlyargs), (None, None, [], []))
            for part in node.body:
                self.check_parts(part, where)

    def check_parts(self, part, where):
        for node in ast.walk(part):
            spot = where + (getattr(node, "lineno", 0),)
            if isinstance(node, ast.stmt):
                self.assertIsInstance(node, STATEMENTS, spot)
            if isinstance(node, ast.expr):
                self.assertIsInstance(node, EXPRESSIONS, spot)
            if isinstance(node, ast.operator):
                self.assertIsInstance(node, OPERATORS, spot)
            if isinstance(node, ast.Expr):
                self.assertIsInstance(node.value, ast.Call, spot)
            if isinstance(node, ast.Assign):
                self.assertEqual(len(node.targets), 1, spot)
                self.assertNotIsInstance(node.targets[0], (ast.Tuple, ast.List), spot)
            if isinstance(node, (ast.For, ast.While)):
                self.assertEqual(node.orelse, [], spot)
            if isinstance(node, ast.Constant):
                self.assertTrue(node.value is None or type(node.value) in (int, str, bool), spot)
            if isinstance(node, ast.Call):
                self.assertEqual(node.keywords, [], spot)

    def test_no_power_of_a_name(self):
        for name, tree in trees().items():
            for node in ast.walk(tree):
                if isinstance(node, ast.BinOp) and isinstance(node.op, ast.Pow):
                    self.assertIsInstance(node.right, ast.Constant, name)

    def test_is_stands_beside_none_and_truth(self):
        for name, tree in trees().items():
            for node in ast.walk(tree):
                if isinstance(node, ast.Compare) and isinstance(node.ops[0], (ast.Is, ast.IsNot)):
                    self.assertIn(getattr(node.comparators[0], "value", 0), (None, True, False), name)

    def test_names(self):
        for name, tree in trees().items():
            known = top_names(tree) + [alias.name for node in imports(tree) for alias in node.names]
            for node in ast.walk(tree):
                if isinstance(node, ast.Name):
                    self.check_name(node.id, name)
                    if isinstance(node.ctx, ast.Load) and node.id in dir(builtins):
                        self.assertIn(node.id, OWN_NAMES, name)
                if isinstance(node, ast.FunctionDef):
                    self.check_locals(node, known, name)

    def check_name(self, word, where):
        self.assertRegex(word, r"^[A-Za-z][A-Za-z0-9_]*$", where)
        self.assertNotIn(word, UNUSED_NAMES, where)

    def check_locals(self, node, known, where):
        bound = [part.arg for part in node.args.args]
        bound += [part.id for part in ast.walk(node) if isinstance(part, ast.Name) and isinstance(part.ctx, ast.Store)]
        for word in bound:
            self.check_name(word, where)
            self.assertNotIn(word, dir(builtins), where)
            self.assertNotIn(word, known, where)

    def test_attributes(self):
        allowed = METHODS + own_methods()
        for name, tree in trees().items():
            for node in ast.walk(tree):
                if isinstance(node, ast.Attribute):
                    self.check_name(node.attr, name)
                if isinstance(node, ast.Call) and isinstance(node.func, ast.Attribute):
                    self.assertIn(node.func.attr, allowed, name)

    def test_walked_at_once(self):
        for name, tree in trees().items():
            walked = [node.iter for node in ast.walk(tree) if isinstance(node, (ast.For, ast.comprehension))]
            for node in ast.walk(tree):
                if isinstance(node, ast.Call) and self.called(node) in WALKED:
                    self.assertIn(node, walked, (name, node.lineno))

    def called(self, node):
        return node.func.id if isinstance(node.func, ast.Name) else getattr(node.func, "attr", None)

    def test_methods_are_called_where_they_stand(self):
        methods = METHODS + own_methods()
        for name, tree in trees().items():
            called = [node.func for node in ast.walk(tree) if isinstance(node, ast.Call)]
            for node in ast.walk(tree):
                if isinstance(node, ast.Attribute) and node.attr in methods:
                    self.assertIn(node, called, (name, node.lineno))

    def test_classes_are_called_alone(self):
        classes = [node.name for tree in trees().values() for node in ast.walk(tree) if isinstance(node, ast.ClassDef)]
        for name, tree in trees().items():
            called = [node.func for node in ast.walk(tree) if isinstance(node, ast.Call)]
            for node in ast.walk(tree):
                if isinstance(node, ast.Name) and node.id in classes:
                    self.assertIn(node, called, (name, node.lineno))

    def test_classes(self):
        taken = [word for kind in (str, int, list, dict, set, bytes, tuple) for word in dir(kind)]
        for name, tree in trees().items():
            for node in ast.walk(tree):
                if not isinstance(node, ast.ClassDef):
                    continue
                self.assertIn(node, tree.body, name)
                self.assertEqual((node.decorator_list, node.keywords), ([], []), name)
                for part in node.body:
                    self.assertIsInstance(part, ast.FunctionDef, name)
                    self.assertTrue(part.name in DUNDER_METHODS or part.name not in taken, part.name)
                self.check_values(node, taken)

    def check_values(self, node, taken):
        methods = [part.name for part in node.body]
        self.assertEqual(len(methods), len(set(methods)))
        for part in ast.walk(node):
            if isinstance(part, ast.Attribute) and isinstance(part.ctx, ast.Store):
                self.assertNotIn(part.attr, own_methods() + taken)
