"""A part of the rules for the code of the package, as far as its text shows them."""

import ast
import builtins
import pathlib
import re
import unittest

FOLDER = pathlib.Path(__file__).resolve().parent.parent / "hushlink"
BUILTINS = set("""len range enumerate zip min max sum abs sorted reversed int str bool bytes list
    tuple dict set frozenset isinstance ord repr any all divmod pow getattr hasattr setattr super
    Exception ValueError TypeError KeyError IndexError LookupError ZeroDivisionError
    ArithmeticError OverflowError RuntimeError NotImplementedError AttributeError StopIteration
    NotImplemented map iter next property staticmethod classmethod""".split())
METHODS = set("""append clear copy count endswith extend find get index insert isalnum isalpha
    isdigit islower isspace isupper items join keys ljust lower lstrip partition pop remove replace
    reverse rfind rjust rpartition rsplit rstrip setdefault split splitlines startswith strip
    update upper values zfill bit_length __init__""".split())
UNUSED_NAMES = set("""register mro elements open input law version_info with_traceback add_note
    attrgetter breakpoint builtins compile copyright credits delattr dir eval exec exit gc globals
    help id importlib license locals methodcaller os quit type vars sys __name__""".split())
UNUSED_NODES = (ast.Global, ast.AsyncFunctionDef, ast.AsyncFor, ast.AsyncWith, ast.Await,
                ast.Div, ast.Import, ast.MatMult)


def sources():
    return {path.stem: path.read_text(encoding="utf-8") for path in sorted(FOLDER.glob("*.py"))}


def trees():
    return {name: ast.parse(text) for name, text in sources().items()}


def nodes(kind):
    """All nodes of a kind, each with the name of its file."""
    return [(name, node) for name, tree in trees().items() for node in ast.walk(tree)
            if isinstance(node, kind)]


def top_names(tree):
    """The functions, classes and values that a file defines."""
    names = []
    for node in tree.body:
        if isinstance(node, (ast.FunctionDef, ast.ClassDef)):
            names.append(node.name)
        if isinstance(node, ast.Assign):
            names.extend(target.id for target in node.targets)
    return names


def local_names(function):
    """The parameters and the names that a function assigns."""
    given = function.args
    names = [one.arg for one in given.posonlyargs + given.args + given.kwonlyargs]
    names += [node.id for node in ast.walk(function)
              if isinstance(node, ast.Name) and isinstance(node.ctx, ast.Store)]
    return names


class Text(unittest.TestCase):
    def test_files(self):
        for path in FOLDER.iterdir():
            if path.name != "__pycache__":
                self.assertRegex(path.name, r"^(__init__|[a-z][a-z0-9_]*)\.py$")

    def test_lines_and_characters(self):
        for name, text in sources().items():
            self.assertLess(len(text.splitlines()), 400, name)
            self.assertTrue(text.endswith("\n"), name)
            for line in text.splitlines():
                self.assertLessEqual(len(line), 120, name)
                self.assertRegex(line, r"^[ -~]*$", name)

    def test_functions_are_short(self):
        for name, node in nodes(ast.FunctionDef):
            self.assertLessEqual(node.end_lineno - node.lineno + 1, 40, (name, node.name))

    def test_strings(self):
        for name, node in nodes(ast.Constant):
            self.assertNotIsInstance(node.value, (float, complex), name)
            if isinstance(node.value, str):
                self.assertNotIn("%", node.value, name)

    def test_no_words_that_are_for_others(self):
        for name, text in sources().items():
            self.assertIsNone(re.search(r"_wall\b|_WallAttr|\.to_bytes|\.fromhex|\bbytes\(", text),
                              name)


class Structure(unittest.TestCase):
    def test_statements_at_module_level(self):
        for name, tree in trees().items():
            self.assertIsNotNone(ast.get_docstring(tree), name)
            for node in tree.body[1:]:
                self.assertIsInstance(node, (ast.ImportFrom, ast.FunctionDef, ast.ClassDef,
                                             ast.Assign), name)
            names = top_names(tree)
            self.assertEqual(len(names), len(set(names)), name)

    def test_imports_name_the_file_that_defines_the_name(self):
        all_trees = trees()
        for name, node in nodes(ast.ImportFrom):
            self.assertEqual(node.level, 0, name)
            package, _, origin = node.module.partition(".")
            self.assertEqual(package, "hushlink", name)
            for alias in node.names:
                self.assertIn(alias.name, top_names(all_trees[origin]), name)

    def test_no_two_files_import_from_each_other(self):
        needs = {name: set() for name in trees()}
        for name, node in nodes(ast.ImportFrom):
            needs[name].add(node.module.partition(".")[2])
        while needs:
            free = [name for name, others in needs.items() if not others & set(needs)]
            self.assertTrue(free, needs)
            for name in free:
                del needs[name]

    def test_statements_and_signs_that_are_not_used(self):
        for name, tree in trees().items():
            for node in ast.walk(tree):
                self.assertNotIsInstance(node, UNUSED_NODES, name)

    def test_values_at_module_level_are_plain(self):
        for name, tree in trees().items():
            functions = set()
            for node in tree.body:
                if isinstance(node, ast.FunctionDef):
                    functions.add(node.name)
                if isinstance(node, ast.Assign):
                    self.assertEqual(len(node.targets), 1, name)
                    for part in ast.walk(node.value):
                        self.assertNotIsInstance(part, (ast.Call, ast.Lambda, ast.Attribute), name)
                        if isinstance(part, ast.Name):
                            self.assertIn(part.id, functions, name)

    def test_is_stands_beside_none_true_and_false(self):
        for name, node in nodes(ast.Compare):
            for sign, right in zip(node.ops, node.comparators):
                if isinstance(sign, (ast.Is, ast.IsNot)):
                    self.assertIsInstance(right, ast.Constant, name)

    def test_default_values_are_plain(self):
        for name, node in nodes((ast.FunctionDef, ast.Lambda)):
            for value in node.args.defaults + [one for one in node.args.kw_defaults if one]:
                ast.literal_eval(value)
                self.assertNotIsInstance(value, (ast.List, ast.Dict), name)

    def test_no_decorators(self):
        for name, node in nodes((ast.FunctionDef, ast.ClassDef)):
            self.assertEqual(node.decorator_list, [], name)

    def test_exponents_are_small_literals(self):
        for name, node in nodes(ast.BinOp):
            if isinstance(node.op, ast.Pow):
                self.assertIsInstance(node.right, ast.Constant, name)
                self.assertLessEqual(node.right.value, 64, name)


class Names(unittest.TestCase):
    def test_builtins(self):
        for name, node in nodes(ast.Name):
            if hasattr(builtins, node.id):
                self.assertIn(node.id, BUILTINS, name)
                self.assertIsInstance(node.ctx, ast.Load, (name, node.id))

    def test_own_names(self):
        for name, tree in trees().items():
            for own in top_names(tree):
                self.assertFalse(hasattr(builtins, own), (name, own))
                self.assertNotIn(own, UNUSED_NAMES, name)

    def test_local_names(self):
        for name, tree in trees().items():
            taken = {node.name for node in tree.body if isinstance(node, ast.ClassDef)}
            for node in tree.body:
                if isinstance(node, ast.ImportFrom):
                    taken.update(alias.name for alias in node.names)
            for function in [node for node in ast.walk(tree) if isinstance(node, ast.FunctionDef)]:
                for own in local_names(function):
                    self.assertFalse(hasattr(builtins, own), (name, own))
                    self.assertNotIn(own, taken | UNUSED_NAMES, (name, function.name))
                    self.assertFalse(own.startswith("__"), name)

    def test_methods(self):
        own = {item.name for _, node in nodes(ast.ClassDef) for item in node.body
               if isinstance(item, ast.FunctionDef)}
        for name, node in nodes(ast.Call):
            if isinstance(node.func, ast.Attribute):
                self.assertIn(node.func.attr, METHODS | own, name)

    def test_methods_are_called_where_they_stand(self):
        methods = {item.name for _, node in nodes(ast.ClassDef) for item in node.body
                   if isinstance(item, ast.FunctionDef)}
        for name, tree in trees().items():
            called = {id(node.func) for node in ast.walk(tree) if isinstance(node, ast.Call)}
            for node in ast.walk(tree):
                if isinstance(node, ast.Attribute) and id(node) not in called:
                    self.assertNotIn(node.attr, methods | METHODS, name)

    def test_no_name_is_a_method_and_an_attribute(self):
        methods = {item.name for _, node in nodes(ast.ClassDef) for item in node.body
                   if isinstance(item, ast.FunctionDef)}
        for name, node in nodes(ast.Attribute):
            if isinstance(node.ctx, ast.Store):
                self.assertNotIn(node.attr, methods, name)


if __name__ == "__main__":
    unittest.main()
