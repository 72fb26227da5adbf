"""The files of the package keep to those rules of the language that can be seen by looking at single places."""

import ast
import builtins
import pathlib
import re
import unittest

PACKAGE = pathlib.Path(__file__).resolve().parent.parent / "circlesettle"

LIBRARY = {
    "heapq": {"heappush", "heappop", "heapify", "heapreplace", "heappushpop"},
    "math": {"gcd", "lcm", "isqrt", "comb", "perm", "factorial"},
}
BUILTINS = set("""len range enumerate zip min max sum abs sorted reversed int str bool bytes list tuple dict set frozenset
    isinstance ord repr any all divmod pow Exception ValueError TypeError KeyError IndexError LookupError
    ZeroDivisionError ArithmeticError OverflowError RuntimeError NotImplementedError AttributeError property""".split())
METHODS = set("""append clear copy count endswith extend find get index insert isalnum isalpha isdigit islower isspace
    isupper items join keys ljust lower lstrip partition pop remove replace reverse rfind rjust rpartition rsplit rstrip
    setdefault split splitlines startswith strip update upper values zfill bit_length""".split())
BARRED = set("""register mro elements open input law version_info with_traceback add_note attrgetter breakpoint builtins
    compile copyright credits delattr dir eval exec exit gc getattr globals hasattr help id importlib license locals
    methodcaller os quit setattr super type vars sys""".split())
BARRED_WORDS = set("""type typing typing_extensions enum Enum IntEnum StrEnum Flag IntFlag Generic Protocol ABC ABCMeta
    namedtuple NamedTuple TypedDict TYPE_CHECKING abstractmethod""".split())
STATEMENTS = (
    ast.FunctionDef, ast.ClassDef, ast.Assign, ast.AugAssign, ast.If, ast.While, ast.For, ast.Return, ast.Break,
    ast.Continue, ast.Pass, ast.Raise, ast.Assert, ast.Delete, ast.Expr, ast.ImportFrom, ast.Try,
)


def trees():
    """The files with their trees, in which each node knows the one that it stands in."""
    for path in sorted(PACKAGE.rglob("*.py")):
        tree = ast.parse(path.read_text(encoding="ascii"))
        for node in ast.walk(tree):
            for inner in ast.iter_child_nodes(node):
                inner.around = node
        yield path.name, tree


def bound_names(tree):
    """All names that a file binds anywhere, with the nodes that bind them."""
    for node in ast.walk(tree):
        if isinstance(node, ast.Name) and isinstance(node.ctx, (ast.Store, ast.Del)):
            yield node.id, node
        elif isinstance(node, ast.arg):
            yield node.arg, node
        elif isinstance(node, (ast.FunctionDef, ast.ClassDef)):
            yield node.name, node
        elif isinstance(node, ast.alias):
            yield node.asname or node.name, node


class TestLanguage(unittest.TestCase):
    def every(self, *kinds):
        for name, tree in trees():
            for node in ast.walk(tree):
                if isinstance(node, kinds):
                    with self.subTest(file=name, line=getattr(node, "lineno", 0)):
                        yield node

    def test_imports(self):
        for node in self.every(ast.Import, ast.ImportFrom):
            self.assertIsInstance(node, ast.ImportFrom)
            self.assertIsInstance(node.around, ast.Module)
            self.assertEqual(node.level, 0)
            self.assertEqual([alias.asname for alias in node.names], [None] * len(node.names))
            if node.module in LIBRARY:
                self.assertLessEqual({alias.name for alias in node.names}, LIBRARY[node.module])
            else:
                self.assertTrue((PACKAGE.parent / (node.module.replace(".", "/") + ".py")).is_file())

    def test_imports_name_the_file_that_defines_the_name_and_all_are_used(self):
        defined = {name[:-3]: {bound for bound, node in bound_names(tree) if isinstance(node.around, (ast.Module, ast.Assign))}
                   for name, tree in trees()}
        for name, tree in trees():
            used = {node.id for node in ast.walk(tree) if isinstance(node, ast.Name)}
            for node in ast.walk(tree):
                if isinstance(node, ast.ImportFrom):
                    for alias in node.names:
                        with self.subTest(file=name, name=alias.name):
                            self.assertIn(alias.name, used)
                            if node.module.startswith("circlesettle."):
                                self.assertIn(alias.name, defined[node.module.split(".")[1]])

    def test_no_two_files_import_from_each_other(self):
        leads = {name: {node.module.split(".")[-1] + ".py" for node in ast.walk(tree) if isinstance(node, ast.ImportFrom)}
                 for name, tree in trees()}
        for name in leads:
            reached = set(leads[name])
            for _ in leads:
                reached |= {further for each in reached for further in leads.get(each, ())}
            self.assertNotIn(name, reached)

    def test_statements(self):
        for node in self.every(ast.stmt):
            self.assertIsInstance(node, STATEMENTS)
        for _, tree in trees():
            for node in tree.body:
                self.assertIsInstance(node, (ast.Expr, ast.ImportFrom, ast.FunctionDef, ast.ClassDef, ast.Assign))

    def test_functions_have_no_decorators_but_properties_and_no_annotations(self):
        for node in self.every(ast.FunctionDef, ast.ClassDef):
            decorators = [ast.dump(each) for each in node.decorator_list]
            if decorators:
                self.assertIsInstance(node.around, ast.ClassDef)
                self.assertEqual(decorators, [ast.dump(ast.Name("property", ast.Load()))])
                self.assertEqual([arg.arg for arg in node.args.args], ["self"])
        for node in self.every(ast.arg):
            self.assertIsNone(node.annotation)

    def test_numbers_are_whole(self):
        for node in self.every(ast.Constant):
            self.assertNotIsInstance(node.value, (float, complex))
        for node in self.every(ast.BinOp, ast.AugAssign):
            self.assertNotIsInstance(node.op, (ast.Div, ast.MatMult))

    def test_strings(self):
        for node in self.every(ast.Constant):
            if isinstance(node.value, str):
                self.assertNotIn("%", node.value)

    def test_bound_names(self):
        for name, tree in trees():
            for bound, node in bound_names(tree):
                with self.subTest(file=name, name=bound):
                    self.assertNotIn(bound, dir(builtins))
                    self.assertNotIn(bound, BARRED)
                    self.assertRegex(bound, "^(_|_?[A-Za-z][A-Za-z0-9_]*|__init__|__len__|__contains__)$")
                    self.assertIsNone(re.match("_(wall|pe_|dcw_|enum_|cm_|twin_re_|lay_|law_|stub_|sre)", bound))

    def test_names_at_module_level_are_bound_once_and_nowhere_else(self):
        for name, tree in trees():
            at_top = [bound for bound, node in bound_names(tree)
                      if isinstance(node.around, ast.Module) or isinstance(getattr(node.around, "around", None), ast.Module)
                      and isinstance(node.around, (ast.ImportFrom, ast.Assign))]
            self.assertEqual(sorted(set(at_top)), sorted(at_top), name)
            imports_and_classes = {bound for bound, node in bound_names(tree) if isinstance(node, (ast.alias, ast.ClassDef))}
            inside = {bound for bound, node in bound_names(tree) if isinstance(node, (ast.Name, ast.arg))
                      and not isinstance(node.around.around, ast.Module)}
            self.assertEqual(imports_and_classes & inside, set(), name)

    def test_builtins(self):
        for node in self.every(ast.Name):
            if node.id in dir(builtins):
                self.assertIn(node.id, BUILTINS)

    def test_attributes(self):
        own = {node.name for _, tree in trees() for node in ast.walk(tree) if isinstance(node, ast.FunctionDef)}
        for node in self.every(ast.Attribute):
            self.assertNotIn(node.attr, BARRED)
            if isinstance(node.around, ast.Call) and node.around.func is node:
                self.assertIn(node.attr, METHODS | own)
            elif isinstance(node.ctx, ast.Store):
                self.assertNotIn(node.attr, METHODS | own)

    def test_words_of_the_files(self):
        for name, tree in trees():
            for node in ast.walk(tree):
                if isinstance(node, (ast.Name, ast.Attribute, ast.arg, ast.alias, ast.FunctionDef, ast.keyword)):
                    words = {getattr(node, field, None) for field in ("id", "attr", "arg", "name")}
                    self.assertEqual(words & BARRED_WORDS, set(), name)

    def test_property_is_no_value(self):
        for node in self.every(ast.Name):
            if node.id == "property":
                self.assertIsInstance(node.around, ast.FunctionDef)

    def test_what_operators_and_properties_run_changes_nothing(self):
        functions = {node.name: node for _, tree in trees() for node in ast.walk(tree) if isinstance(node, ast.FunctionDef)}
        todo = [node for node in functions.values() if node.decorator_list or node.name in ("__len__", "__contains__")]
        self.assertGreater(len(todo), 3)
        done = []
        while todo:
            node = todo.pop()
            done.append(node)
            for inner in ast.walk(node):
                self.assertFalse(isinstance(inner, (ast.Attribute, ast.Subscript)) and not isinstance(inner.ctx, ast.Load))
                self.assertNotIsInstance(inner, ast.AugAssign)
                if isinstance(inner, ast.Call):
                    self.assertIsInstance(inner.func, ast.Name)
                    called = functions.get(inner.func.id)
                    self.assertTrue(called or inner.func.id in BUILTINS)
                    if called and called not in done:
                        todo.append(called)

    def test_errors_that_are_caught_are_own_ones(self):
        own = {node.name for name, tree in trees() if name == "errors.py" for node in tree.body if isinstance(node, ast.ClassDef)}
        for node in self.every(ast.ExceptHandler):
            self.assertIn(node.type.id, own)

    def test_is_stands_with_none_true_and_false(self):
        for node in self.every(ast.Compare):
            for operator, right in zip(node.ops, node.comparators):
                if isinstance(operator, (ast.Is, ast.IsNot)):
                    self.assertIsInstance(right, ast.Constant)
                    self.assertIn(right.value, (None, True, False))

    def test_sets_are_not_kept(self):
        for node in self.every(ast.Set, ast.SetComp, ast.Call):
            if isinstance(node, ast.Call) and not (isinstance(node.func, ast.Name) and node.func.id == "set"):
                continue
            around = node.around
            if isinstance(around, ast.Call):
                self.assertIn(around.func.id, ("sorted", "len"))
            else:
                self.assertIsInstance(around, ast.Compare)

    def test_iterators_are_not_kept(self):
        kinds = ("zip", "enumerate", "reversed", "range", "items", "keys", "values", "lines_of")
        for node in self.every(ast.Call):
            called = node.func.id if isinstance(node.func, ast.Name) else getattr(node.func, "attr", "")
            if called in kinds:
                self.assertIsInstance(node.around, (ast.For, ast.comprehension, ast.Call))
                if isinstance(node.around, ast.Call):
                    self.assertIn(node.around.func.id, ("list", "tuple", "dict", "sorted", "sum", "enumerate", "zip"))

    def test_what_a_loop_goes_over_is_not_changed_in_it(self):
        for node in self.every(ast.For):
            over = ast.dump(node.iter)
            for inner in ast.walk(node):
                if isinstance(inner, ast.Call) and isinstance(inner.func, ast.Attribute):
                    if inner.func.attr in ("append", "extend", "pop", "clear", "remove", "insert", "setdefault", "update"):
                        self.assertNotEqual(ast.dump(inner.func.value), over)
                if isinstance(inner, ast.Subscript) and isinstance(inner.ctx, (ast.Store, ast.Del)):
                    self.assertNotEqual(ast.dump(inner.value), over)


if __name__ == "__main__":
    unittest.main()
