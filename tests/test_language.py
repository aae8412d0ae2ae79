"""Rules of the language that can be told by reading the files of the package."""

import ast
import pathlib
import re
import unittest

PACKAGE = pathlib.Path(__file__).resolve().parent.parent / "gentlerounds"
LIBRARY = {"heapq", "math", "itertools", "collections"}
BUILTINS = set("""len range enumerate zip min max sum abs sorted reversed int str bool list tuple dict set frozenset
isinstance ord repr any all divmod pow getattr hasattr setattr iter next map property staticmethod classmethod super
Exception ValueError TypeError KeyError IndexError LookupError ZeroDivisionError ArithmeticError OverflowError
RuntimeError NotImplementedError AttributeError StopIteration NotImplemented True False None""".split())
METHODS = set("""append clear copy count endswith extend find get index insert isalnum isalpha isdigit islower isspace
isupper items join keys ljust lower lstrip partition pop remove replace reverse rfind rjust rpartition rsplit rstrip
setdefault split splitlines startswith strip update upper values zfill bit_length title capitalize swapcase casefold
center expandtabs removeprefix removesuffix rindex isascii isdecimal isnumeric istitle isidentifier isprintable
translate sort format encode decode add discard""".split())
NEVER = """register mro elements open input law version_info with_traceback add_note type typing typing_extensions enum
Enum IntEnum StrEnum Flag IntFlag Generic Protocol ABC ABCMeta namedtuple NamedTuple TypedDict TYPE_CHECKING
abstractmethod eval exec exit compile globals locals vars dir id help quit os gc chr bytes bytearray memoryview float
print hash round filter object slice""".split()
NODES = (ast.Global, ast.AsyncFunctionDef, ast.Await, ast.AsyncFor, ast.AsyncWith, ast.Import, ast.Div, ast.Yield,
         ast.YieldFrom, ast.MatMult)


def files():
    return sorted(PACKAGE.rglob("*.py"))


def trees():
    return [(path.name, ast.parse(path.read_text())) for path in files()]


def names_of(tree):
    """All names that a file binds or reads, with those of parameters, attributes, keywords and methods."""
    for node in ast.walk(tree):
        for field in ("id", "arg", "attr", "name", "asname"):
            value = getattr(node, field, None)
            if isinstance(value, str):
                yield value


def docstrings(tree):
    kinds = (ast.Module, ast.FunctionDef, ast.ClassDef)
    return {id(node.body[0].value) for node in ast.walk(tree) if isinstance(node, kinds) and ast.get_docstring(node)}


COMPREHENSIONS = (ast.ListComp, ast.DictComp, ast.SetComp, ast.GeneratorExp)


def called(node):
    """The name of what a call calls; None for what is no call."""
    if not isinstance(node, ast.Call):
        return None
    return getattr(node.func, "id", getattr(node.func, "attr", None))


def targets(comprehension):
    """The names that a comprehension assigns."""
    return {one.id for row in comprehension.generators for one in ast.walk(row.target) if isinstance(one, ast.Name)}


class TestFiles(unittest.TestCase):
    def test_the_folder_holds_python_files_alone(self):
        for path in PACKAGE.rglob("*"):
            if "__pycache__" not in path.parts:
                self.assertEqual(path.suffix, ".py")
                self.assertRegex(path.name, "^[a-z0-9_]+[.]py$")
        self.assertTrue((PACKAGE / "__init__.py").exists())

    def test_sizes_and_signs(self):
        for path in files():
            text = path.read_text()
            lines = text.split("\n")
            self.assertLessEqual(len(lines), 400, path)
            self.assertLessEqual(max(len(line) for line in lines), 120, path)
            self.assertTrue(all(sign == "\n" or " " <= sign <= "~" for sign in text), path)
            self.assertTrue(text.endswith("\n"), path)
            self.assertFalse([line for line in lines if line != line.rstrip()], path)

    def test_functions_are_short(self):
        for name, tree in trees():
            for node in ast.walk(tree):
                if isinstance(node, ast.FunctionDef):
                    self.assertLessEqual(node.end_lineno - node.lineno + 1, 40, (name, node.name))


class TestLanguage(unittest.TestCase):
    def test_statements_and_literals(self):
        for name, tree in trees():
            told = docstrings(tree)
            for node in ast.walk(tree):
                self.assertNotIsInstance(node, NODES, name)
                if isinstance(node, ast.Constant) and id(node) not in told:
                    self.assertNotIsInstance(node.value, (float, complex), name)
                    if isinstance(node.value, str):
                        self.assertNotIn("%", node.value, name)
                if isinstance(node, ast.FunctionDef):
                    known = [ast.unparse(mark) for mark in node.decorator_list]
                    self.assertIn(known, [[], ["property"], ["staticmethod"], ["classmethod"]], name)

    def test_module_level(self):
        for name, tree in trees():
            bound = []
            for node in tree.body:
                if isinstance(node, ast.Expr):
                    self.assertIs(node, tree.body[0], name)
                elif isinstance(node, ast.Assign):
                    self.assertEqual(len(node.targets), 1, name)
                    bound.append(node.targets[0].id)
                elif isinstance(node, ast.ImportFrom):
                    bound += [one.name for one in node.names]
                else:
                    self.assertIsInstance(node, (ast.FunctionDef, ast.ClassDef), name)
                    bound.append(node.name)
            self.assertEqual(len(bound), len(set(bound)), name)

    def test_imports(self):
        home = {}
        for name, tree in trees():
            for node in tree.body:
                for one in [node.name] if hasattr(node, "name") else getattr(node, "targets", []):
                    home[(name[:-3], getattr(one, "id", one))] = True
        for name, tree in trees():
            used = [node.id for node in ast.walk(tree) if isinstance(node, ast.Name)]
            for node in tree.body:
                if isinstance(node, ast.ImportFrom) and node.module not in LIBRARY:
                    package, _, module = node.module.partition(".")
                    self.assertEqual(package, "gentlerounds")
                    for one in node.names:
                        self.assertIn((module, one.name), home)
                        self.assertIsNone(one.asname)
                        self.assertIn(one.name, used, name)

    def test_names(self):
        for name, tree in trees():
            for word in names_of(tree):
                self.assertNotIn(word, NEVER, name)
                if not re.fullmatch("__(init|len|iter|call|eq|repr|str)__", word):
                    self.assertRegex(word, "^(_?[A-Za-z][A-Za-z0-9_]*|_)$", name)

    def test_bound_names_are_free(self):
        for name, tree in trees():
            imported = [one.name for node in tree.body if isinstance(node, ast.ImportFrom) for one in node.names]
            taken = BUILTINS | set(imported) | {node.name for node in tree.body if isinstance(node, ast.ClassDef)}
            for node in ast.walk(tree):
                if isinstance(node, ast.arg):
                    self.assertNotIn(node.arg, taken, name)
                if isinstance(node, ast.Name) and isinstance(node.ctx, ast.Store):
                    self.assertNotIn(node.id, taken, name)
                if isinstance(node, ast.FunctionDef):
                    self.assertNotIn(node.name, BUILTINS, name)

    def test_methods_of_builtin_values(self):
        own = {node.name for _, tree in trees() for node in ast.walk(tree) if isinstance(node, ast.FunctionDef)}
        for name, tree in trees():
            for node in ast.walk(tree):
                if isinstance(node, ast.Call) and isinstance(node.func, ast.Attribute):
                    self.assertIn(node.func.attr, METHODS | own, name)

    def test_attributes_are_no_methods_and_no_properties(self):
        kept, methods = set(), set()
        for _, tree in trees():
            for node in ast.walk(tree):
                if isinstance(node, ast.Attribute) and isinstance(node.ctx, ast.Store):
                    kept.add(node.attr)
                if isinstance(node, ast.ClassDef):
                    methods |= {one.name for one in node.body if isinstance(one, ast.FunctionDef)}
        self.assertEqual(kept & methods, set())
        self.assertEqual(kept & METHODS - {"count", "index", "title", "find", "get", "join", "lower", "upper", "split",
                                           "strip", "copy", "add"}, set())

    def test_what_is_iterated_at_once_is_not_kept(self):
        lazy = {"zip", "enumerate", "reversed", "items", "keys", "values", "iter", "map"}
        for name, tree in trees():
            for node in ast.walk(tree):
                if isinstance(node, (ast.Assign, ast.Return)) and isinstance(node.value, ast.Call):
                    called = node.value.func
                    self.assertNotIn(getattr(called, "id", getattr(called, "attr", None)), lazy, name)
                if isinstance(node, (ast.Assign, ast.Return)):
                    self.assertNotIsInstance(node.value, (ast.GeneratorExp, ast.Set, ast.SetComp), name)

    def test_generators_lazy_calls_and_sets_stand_where_they_may(self):
        calls = {"list", "tuple", "dict", "sorted", "sum", "min", "max", "any", "all"}
        for name, tree in trees():
            ahead = {below: above for above in ast.walk(tree) for below in ast.iter_child_nodes(above)}
            for node in ast.walk(tree):
                above = ahead.get(node)
                word = called(above)
                if isinstance(node, ast.GeneratorExp):
                    self.assertIn(word, calls | {"join"}, (name, node.lineno))
                    self.assertFalse([one for one in above.keywords if one.arg == "key"], (name, node.lineno))
                if called(node) in ("zip", "enumerate", "reversed", "range", "items", "keys", "values", "combinations"):
                    is_gone_through = isinstance(above, (ast.For, ast.comprehension)) and above.iter is node
                    self.assertTrue(is_gone_through or word in calls | {"zip", "enumerate"}, (name, node.lineno))
                if isinstance(node, (ast.Set, ast.SetComp)) or called(node) in ("set", "frozenset"):
                    self.assertIn(word, ("len", "sorted"), (name, node.lineno))

    def test_what_is_compared_by_is(self):
        for name, tree in trees():
            for node in ast.walk(tree):
                if isinstance(node, ast.Compare):
                    for sign, other in zip(node.ops, node.comparators):
                        if isinstance(sign, (ast.Is, ast.IsNot)):
                            self.assertIn(repr(getattr(other, "value", ...)), ("None", "True", "False"), name)

    def test_no_strings_in_the_braces(self):
        for name, tree in trees():
            for node in ast.walk(tree):
                if isinstance(node, ast.FormattedValue):
                    for one in ast.walk(node.value):
                        self.assertNotIsInstance(one, ast.JoinedStr, name)
                        if isinstance(one, ast.Constant):
                            self.assertNotIsInstance(one.value, (str, bytes), name)

    def test_names_in_comprehensions_are_their_own(self):
        for name, tree in trees():
            for function in [node for node in ast.walk(tree) if isinstance(node, ast.FunctionDef)]:
                rows = [node for node in ast.walk(function) if isinstance(node, COMPREHENSIONS)]
                for row in rows:
                    inner = [one for one in ast.walk(row) if isinstance(one, COMPREHENSIONS) and one is not row]
                    for one in inner:
                        self.assertFalse(targets(one) & targets(row) - {"_"}, (name, function.name))

    def test_tables_of_functions_are_only_read(self):
        for name, tree in trees():
            tables = {node.targets[0].id for node in tree.body
                      if isinstance(node, ast.Assign) and isinstance(node.value, (ast.Dict, ast.List))}
            ahead = {below: above for above in ast.walk(tree) for below in ast.iter_child_nodes(above)}
            for node in ast.walk(tree):
                if isinstance(node, ast.Name) and node.id in tables and isinstance(node.ctx, ast.Load):
                    above = ahead[node]
                    self.assertIsInstance(above, (ast.Subscript, ast.Compare), name)
                    self.assertIsInstance(getattr(above, "ctx", ast.Load()), ast.Load, name)
                    self.assertNotIsInstance(ahead[above], ast.Call, name)

    def test_no_two_files_import_from_each_other(self):
        ways = {name[:-3]: {node.module.partition(".")[2] for node in tree.body if isinstance(node, ast.ImportFrom)
                            and node.module.startswith("gentlerounds.")} for name, tree in trees()}
        while ways:
            ends = [name for name in ways if not ways[name] & set(ways)]
            self.assertTrue(ends, ways)
            for name in ends:
                del ways[name]

    def test_errors_are_made_on_the_spot(self):
        for name, tree in trees():
            for node in ast.walk(tree):
                if isinstance(node, ast.Raise):
                    self.assertTrue(node.exc is None or isinstance(node.exc, ast.Call), name)
                    self.assertTrue(node.exc is None or node.exc.func.id[0].isupper(), name)


if __name__ == "__main__":
    unittest.main()
