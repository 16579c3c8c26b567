"""The rules of shared/LANGUAGE.md that can be looked up in the code without much ado."""

import ast
import builtins
import pathlib
import unittest

PACKAGE = pathlib.Path(__file__).resolve().parent.parent / "formkeeper"
FILES = sorted(PACKAGE.rglob("*.py"))
STATEMENTS = (
    ast.FunctionDef, ast.ClassDef, ast.Assign, ast.AugAssign, ast.If, ast.While, ast.For, ast.Return, ast.Break,
    ast.Continue, ast.Pass, ast.Raise, ast.Assert, ast.Delete, ast.Try, ast.Expr, ast.ImportFrom, ast.Nonlocal,
)
BUILTINS = set(
    "len range enumerate zip min max sum abs sorted reversed int str bool list tuple dict set isinstance ord repr "
    "any all divmod super ValueError KeyError NotImplemented".split()
)
METHODS = set(
    "append clear copy count endswith extend find get index insert isalnum isalpha isdigit islower isspace isupper "
    "items join keys ljust lower lstrip partition pop remove replace reverse rfind rjust rpartition rsplit rstrip "
    "setdefault split splitlines startswith strip update upper values zfill bit_length".split()
)
UNUSED_NAMES = set(
    "register mro elements open input law version_info with_traceback add_note attrgetter breakpoint builtins compile "
    "copyright credits delattr dir eval exec exit gc globals help id importlib license locals methodcaller os quit "
    "super type vars sys".split()
)


def tree_of(path):
    return ast.parse(path.read_text(encoding="utf-8"))


def bound_names(node):
    """Returns the names that a node gives to something."""
    if isinstance(node, (ast.FunctionDef, ast.ClassDef)):
        return [node.name]
    if isinstance(node, ast.arg):
        return [node.arg]
    if isinstance(node, ast.Name) and not isinstance(node.ctx, ast.Load):
        return [node.id]
    if isinstance(node, ast.ImportFrom):
        return [alias.asname or alias.name for alias in node.names]
    return []


class LanguageTest(unittest.TestCase):

    def nodes(self):
        for path in FILES:
            for node in ast.walk(tree_of(path)):
                yield f"{path.name}:{getattr(node, 'lineno', 0)}", node

    def own_methods(self):
        return {node.name for path in FILES for each in ast.walk(tree_of(path)) if isinstance(each, ast.ClassDef)
                for node in each.body if isinstance(node, ast.FunctionDef)}

    def test_l1_the_package_holds_nothing_but_its_files(self):
        others = [path for path in PACKAGE.rglob("*") if path.suffix != ".py" and "__pycache__" not in str(path)]
        self.assertEqual([], others)
        self.assertTrue((PACKAGE / "__init__.py").is_file())

    def test_l2_imports_come_from_the_package_by_full_names(self):
        modules = {"formkeeper." + path.stem for path in FILES}
        for place, node in self.nodes():
            self.assertNotIsInstance(node, ast.Import, place)
            if isinstance(node, ast.ImportFrom):
                self.assertEqual((0, True), (node.level, node.module in modules), place)
                self.assertNotIn("*", [alias.name for alias in node.names], place)

    def test_l6_statements(self):
        for place, node in self.nodes():
            if isinstance(node, ast.stmt):
                self.assertIsInstance(node, STATEMENTS, place)

    def test_l7_no_floats_and_no_divisions(self):
        for place, node in self.nodes():
            self.assertNotIsInstance(node, ast.Div, place)
            if isinstance(node, ast.Constant):
                self.assertNotIsInstance(node.value, (float, complex), place)

    def test_l7_no_generator_expressions(self):
        """They would have to stand in a list where a class has an `__eq__`."""
        for place, node in self.nodes():
            self.assertNotIsInstance(node, (ast.GeneratorExp, ast.Yield, ast.YieldFrom), place)

    def test_l8_builtins(self):
        for place, node in self.nodes():
            if isinstance(node, ast.Name) and hasattr(builtins, node.id):
                self.assertIn(node.id, BUILTINS, place)
            for name in bound_names(node):
                if not isinstance(node, ast.FunctionDef):
                    self.assertFalse(hasattr(builtins, name), place)

    def test_l10_sizes(self):
        for path in FILES:
            lines = path.read_text(encoding="utf-8").splitlines()
            self.assertLessEqual(len(lines), 399, path.name)
            self.assertLessEqual(max(len(line) for line in lines), 120, path.name)
        for place, node in self.nodes():
            if isinstance(node, ast.FunctionDef):
                self.assertLessEqual(node.end_lineno - node.lineno + 1, 40, place)

    def test_l14_characters(self):
        for path in FILES:
            for octet in path.read_bytes():
                self.assertTrue(octet == 10 or 32 <= octet <= 126, path.name)

    def test_l15_no_variable_has_the_name_of_an_import_or_a_class(self):
        for path in FILES:
            tree = tree_of(path)
            taken = [name for node in tree.body if isinstance(node, (ast.ImportFrom, ast.ClassDef)) for name in bound_names(node)]
            self.assertEqual(len(taken), len(set(taken)), path.name)
            for function in [node for node in ast.walk(tree) if isinstance(node, (ast.FunctionDef, ast.Lambda))]:
                names = {name for node in ast.walk(function) for name in bound_names(node)} - {getattr(function, "name", None)}
                self.assertEqual(set(), names & set(taken), path.name)

    def test_l15_names_are_bound_once_in_a_file(self):
        for path in FILES:
            names = [name for node in tree_of(path).body for name in bound_names(node)]
            names += [target.id for node in tree_of(path).body if isinstance(node, ast.Assign) for target in node.targets]
            self.assertEqual(len(names), len(set(names)), path.name)

    def test_l16_imports_name_the_file_that_defines_the_name(self):
        defined = {}
        for path in FILES:
            names = [name for node in tree_of(path).body if not isinstance(node, ast.ImportFrom) for name in bound_names(node)]
            names += [target.id for node in tree_of(path).body if isinstance(node, ast.Assign) for target in node.targets]
            defined["formkeeper." + path.stem] = names
        for place, node in self.nodes():
            if isinstance(node, ast.ImportFrom):
                for alias in node.names:
                    self.assertIn(alias.name, defined[node.module], place)

    def test_l16_no_two_files_import_from_each_other(self):
        below = {}
        for path in FILES:
            below[path.stem] = [node.module.split(".")[1] for node in tree_of(path).body
                                if isinstance(node, ast.ImportFrom)]
        while below:
            free = [name for name in below if not set(below[name]) & set(below)]
            self.assertNotEqual([], free, below)
            for name in free:
                del below[name]

    def test_l17_names_that_are_not_used(self):
        for place, node in self.nodes():
            self.assertFalse(set(bound_names(node)) & UNUSED_NAMES, place)

    def test_l18_no_name_is_a_method_and_an_attribute_in_one_class(self):
        assigned = set()
        read = {}
        for place, node in self.nodes():
            if isinstance(node, ast.ClassDef):
                methods = [each.name for each in node.body if isinstance(each, ast.FunctionDef)]
                self.assertEqual(len(methods), len(set(methods)), place)
                attributes = {each.attr for each in ast.walk(node) if isinstance(each, ast.Attribute)
                              and isinstance(each.ctx, ast.Store) and getattr(each.value, "id", "") == "self"}
                self.assertEqual(set(), attributes & set(methods), place)
                assigned |= attributes
            if isinstance(node, ast.Attribute) and isinstance(node.ctx, ast.Load):
                read[node.attr] = place
        unknown = set(read) - assigned - self.own_methods() - METHODS - {"__name__", "__class__", "__init__"}
        self.assertEqual(set(), unknown)

    def test_l20_is_stands_beside_none_true_and_false_only(self):
        for place, node in self.nodes():
            if isinstance(node, ast.Compare) and isinstance(node.ops[0], (ast.Is, ast.IsNot)):
                sides = [node.left] + node.comparators
                self.assertTrue([side for side in sides if isinstance(side, ast.Constant)], place)

    def test_l24_no_sets_are_kept(self):
        for place, node in self.nodes():
            self.assertNotIsInstance(node, (ast.Set, ast.SetComp), place)

    def test_l25_methods(self):
        own = self.own_methods()
        for place, node in self.nodes():
            if isinstance(node, ast.Call) and isinstance(node.func, ast.Attribute):
                self.assertIn(node.func.attr, METHODS | own, place)

    def test_l27_strings(self):
        for place, node in self.nodes():
            if isinstance(node, ast.Constant) and isinstance(node.value, str):
                self.assertNotIn("%", node.value, place)
                self.assertFalse(node.value.endswith(("._", ".__")), place)


if __name__ == "__main__":
    unittest.main()
