"""The rules of the language that a file shows by itself (LANGUAGE.md tells all of them)."""

import ast
import builtins
import pathlib
import re
import unittest

ROOT = pathlib.Path(__file__).resolve().parent.parent
PACKAGE = ROOT / "partedvalues"
FILES = sorted(PACKAGE.rglob("*.py"))
BUILTINS = set(("len range enumerate zip min max sum abs sorted reversed int str bool bytes list tuple dict set "
                "frozenset isinstance ord repr any all divmod pow getattr hasattr setattr iter next map type property "
                "staticmethod classmethod super Exception ValueError TypeError KeyError IndexError LookupError "
                "ZeroDivisionError ArithmeticError OverflowError RuntimeError NotImplementedError AttributeError "
                "StopIteration NotImplemented").split())
# A doctest that ran ahead leaves a name with an underscore among Python's own.
PYTHONS_OWN = {name for name in dir(builtins) if not name.startswith("_")}
NODES_BARRED = (ast.AsyncFunctionDef, ast.AsyncFor, ast.AsyncWith, ast.Await, ast.Global, ast.Div)
WORDS_BARRED = re.compile(r"\b(type|typing|enum|Enum|Flag|Generic|Protocol|ABC|namedtuple|mro|elements|open|input|law|"
                          r"register|eval|exec|globals|locals|vars|dir)\b|dataclass|overload|contextmanager|_wall")
METHODS = {"__init__", "__eq__", "__repr__", "__str__", "__len__", "__call__", "__iter__"}
# The functions and classes of the interface, with their arguments and methods.
INTERFACE = {
    "takes": {"take": "pattern value results", "looked": "pattern value results"},
    "trees": {"tree": "pattern", "walk": "told value results", "judge": "pattern told", "ends": "told"},
    "compare": {"alike": "one other", "first_unlike": "one other", "parting": "one other", "orders_alike": "pattern",
                "lacks_alike": "pattern", "unbound": "pattern", "idle": "pattern",
                "may_change_places": "pattern index"},
    "changes": {"needless": "program", "least_sets": "program", "may_exchange": "program index",
                "surely_binds": "program", "fails": "program", "untaken": "program",
                "may_swap": "program step case", "left_over": "program step"},
    "fewest": {"depth": "told", "fewest": "pattern", "shallow": "pattern"},
    "texts": {"show_program": "program", "show_pattern": "pattern"},
    "readings": {"read_pattern": "text", "read_program": "text"},
}
CLASSES = {
    "patterns": {
        "Pattern": {"__init__": "self part order lacks", "part": "self", "order": "self", "lacks": "self",
                    "names": "self", "with_order": "self order", "__len__": "self", "__eq__": "self other"},
        "Program": {"__init__": "self steps order lacks", "steps": "self", "order": "self", "lacks": "self",
                    "names": "self", "with_order": "self order", "without": "self index", "exchanged": "self index",
                    "__len__": "self", "__eq__": "self other"},
    },
    "matchers": {
        "Matcher": {"__init__": "self pattern", "asks": "self", "__call__": "self answer", "done": "self",
                    "calls": "self", "bound": "self", "undo": "self", "__len__": "self", "__eq__": "self other"},
    },
}
MODULE_LEVEL = (ast.Import, ast.ImportFrom, ast.FunctionDef, ast.ClassDef, ast.Assign, ast.Expr)


def tree_of(path):
    return ast.parse(path.read_text(encoding="utf-8"))


def docstrings(tree):
    found = []
    for node in ast.walk(tree):
        if isinstance(node, (ast.Module, ast.ClassDef, ast.FunctionDef)) and ast.get_docstring(node) is not None:
            found.append(node.body[0].value)
    return found


def bound_names(tree):
    """Each name that a file binds: functions, classes, parameters, targets, imports."""
    for node in ast.walk(tree):
        if isinstance(node, (ast.FunctionDef, ast.ClassDef)):
            yield node.name
        elif isinstance(node, ast.arg):
            yield node.arg
        elif isinstance(node, ast.Name) and not isinstance(node.ctx, ast.Load):
            yield node.id
        elif isinstance(node, ast.alias):
            yield node.asname or node.name


class LanguageTest(unittest.TestCase):
    def test_the_folder_holds_plain_files_alone(self):
        for path in PACKAGE.rglob("*"):
            if path.name == "__pycache__" or path.suffix == ".pyc":
                continue
            self.assertTrue(path.is_dir() or re.fullmatch(r"[a-z_][a-z0-9_]*\.py", path.name), path)
            self.assertNotIn(path.stem, PYTHONS_OWN)
        self.assertTrue((PACKAGE / "__init__.py").is_file())

    def test_sizes_and_characters(self):
        for path in FILES:
            text = path.read_text(encoding="utf-8")
            lines = text.split("\n")
            self.assertLessEqual(len(lines), 399, path)
            self.assertLessEqual(max(len(line) for line in lines), 120, path)
            self.assertTrue(all(" " <= sign <= "~" or sign == "\n" for sign in text), path)
            for node in ast.walk(tree_of(path)):
                if isinstance(node, ast.FunctionDef):
                    self.assertLessEqual(node.end_lineno - node.lineno + 1, 40, (path, node.name))

    def test_module_level(self):
        for path in FILES:
            for node in tree_of(path).body:
                self.assertIsInstance(node, MODULE_LEVEL, path)
                if isinstance(node, ast.Expr):
                    self.assertIsInstance(node.value, ast.Constant, path)

    def test_imports(self):
        for path in FILES:
            for node in ast.walk(tree_of(path)):
                self.assertNotIsInstance(node, ast.Import, path)
                if isinstance(node, ast.ImportFrom):
                    self.assertEqual((node.level, node.module.split(".")[0]), (0, "partedvalues"), path)
                    self.assertTrue((ROOT / (node.module.replace(".", "/") + ".py")).is_file(), node.module)
                    self.assertTrue(all(alias.name != "*" for alias in node.names), path)
                    defined = tree_of(ROOT / (node.module.replace(".", "/") + ".py")).body
                    names = {each.name for each in defined if isinstance(each, (ast.FunctionDef, ast.ClassDef))}
                    names |= {each.targets[0].id for each in defined if isinstance(each, ast.Assign)}
                    self.assertLessEqual({alias.name for alias in node.names}, names, path)

    def test_no_files_import_each_other(self):
        needs = {path.stem: {node.module.split(".")[-1] for node in ast.walk(tree_of(path))
                             if isinstance(node, ast.ImportFrom)} for path in FILES}
        while needs:
            free = [stem for stem in needs if not needs[stem] & set(needs)]
            self.assertTrue(free, needs)
            needs = {stem: needs[stem] for stem in needs if stem not in free}

    def test_statements_and_expressions(self):
        for path in FILES:
            for node in ast.walk(tree_of(path)):
                self.assertNotIsInstance(node, NODES_BARRED, (path, getattr(node, "lineno", None)))
                if isinstance(node, ast.FunctionDef):
                    for decorator in node.decorator_list:
                        self.assertEqual(ast.unparse(decorator), "property", path)
                    if node.name.startswith("__"):
                        self.assertIn(node.name, METHODS, path)

    def test_names(self):
        for path in FILES:
            tree = tree_of(path)
            for name in bound_names(tree):
                self.assertNotIn(name, PYTHONS_OWN, path)
                self.assertTrue(re.fullmatch(r"_?[A-Za-z][A-Za-z0-9_]*|_|__[a-z]+__", name), (path, name))
            used = {node.id for node in ast.walk(tree) if isinstance(node, ast.Name)} & PYTHONS_OWN
            self.assertLessEqual(used, BUILTINS, path)

    def test_words(self):
        for path in FILES:
            tree = tree_of(path)
            told = docstrings(tree)
            for node in ast.walk(tree):
                words = [getattr(node, key, None) for key in ("id", "attr", "arg", "name", "value")]
                for word in words:
                    if isinstance(word, str) and node not in told:
                        self.assertIsNone(WORDS_BARRED.search(word), (path, node.lineno, word))
                if isinstance(node, ast.Constant) and isinstance(node.value, str) and node not in told:
                    self.assertNotIn("%", node.value, path)

    def test_functions_of_the_interface_stand_in_their_files(self):
        for stem, functions in INTERFACE.items():
            found = {node.name: " ".join(arg.arg for arg in node.args.args)
                     for node in tree_of(PACKAGE / (stem + ".py")).body if isinstance(node, ast.FunctionDef)}
            for name, arguments in functions.items():
                self.assertEqual(found.get(name), arguments, (stem, name))

    def test_methods_of_the_interface_stand_in_their_classes(self):
        for stem, classes in CLASSES.items():
            found = {node.name: node for node in tree_of(PACKAGE / (stem + ".py")).body
                     if isinstance(node, ast.ClassDef)}
            for name, methods in classes.items():
                told = {each.name: " ".join(arg.arg for arg in each.args.args) for each in found[name].body
                        if isinstance(each, ast.FunctionDef)}
                self.assertEqual({method: told.get(method) for method in methods}, methods, name)

    def test_imports_are_used_and_keep_their_names(self):
        for path in FILES:
            tree = tree_of(path)
            imports = {alias.name for node in tree.body if isinstance(node, ast.ImportFrom) for alias in node.names}
            classes = {node.name for node in tree.body if isinstance(node, ast.ClassDef)}
            used = {node.id for node in ast.walk(tree) if isinstance(node, ast.Name)}
            self.assertLessEqual(imports, used, path)
            for node in ast.walk(tree):
                if isinstance(node, ast.arg):
                    self.assertNotIn(node.arg, imports | classes, (path, node.lineno))
                if isinstance(node, ast.Name) and not isinstance(node.ctx, ast.Load):
                    self.assertNotIn(node.id, imports | classes, (path, node.lineno))

    def test_no_generator_expressions(self):
        # Patterns compare by ==, so that `any`, `all` and the like take lists.
        for path in FILES:
            for node in ast.walk(tree_of(path)):
                self.assertNotIsInstance(node, ast.GeneratorExp, (path, getattr(node, "lineno", None)))

    def test_no_name_is_a_method_and_an_attribute(self):
        methods, attributes = set(), set()
        for path in FILES:
            for node in ast.walk(tree_of(path)):
                if isinstance(node, ast.ClassDef):
                    methods |= {each.name for each in node.body if isinstance(each, ast.FunctionDef)}
                if isinstance(node, ast.Attribute) and isinstance(node.ctx, ast.Store):
                    attributes.add(node.attr)
        self.assertEqual(methods & attributes, set())

    def test_is_stands_with_constants(self):
        for path in FILES:
            for node in ast.walk(tree_of(path)):
                if isinstance(node, ast.Compare):
                    for sign, side in zip(node.ops, node.comparators):
                        if isinstance(sign, (ast.Is, ast.IsNot)):
                            self.assertIsInstance(side, ast.Constant, (path, node.lineno))

    def test_error_classes_stand_in_one_file(self):
        for path in FILES:
            for node in ast.walk(tree_of(path)):
                if isinstance(node, ast.ClassDef) and any("Error" in ast.unparse(base) for base in node.bases):
                    self.assertEqual(path.name, "errors.py")


if __name__ == "__main__":
    unittest.main()
