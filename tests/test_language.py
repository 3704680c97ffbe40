"""Looks at the files of the package for some of the rules of the Python subset that they keep."""

import ast
import builtins
import os
import unittest

import fourfaces

FOLDER = os.path.dirname(os.path.abspath(fourfaces.__file__))
BUILTINS = set(dir(builtins))
ALLOWED = set("""len range enumerate zip min max sum abs sorted reversed int str bool bytes list tuple dict set
    frozenset isinstance ord repr any all divmod map iter next print Exception ValueError TypeError KeyError
    IndexError LookupError ZeroDivisionError ArithmeticError OverflowError RuntimeError NotImplementedError
    AttributeError StopIteration NotImplemented super property staticmethod classmethod object float""".split())
UNUSED = set("""register mro elements open input law version_info with_traceback add_note attrgetter breakpoint compile
    copyright credits delattr dir eval exec exit gc getattr globals hasattr help id importlib license locals
    methodcaller os quit setattr type vars""".split())
LIBRARY = ("heapq", "math", "itertools")
BARRED = (ast.Global, ast.AsyncFunctionDef, ast.Await, ast.Div, ast.Import, ast.AsyncFor, ast.AsyncWith)


def files():
    """The names of the files of the package, their texts and their trees."""
    for name in sorted(os.listdir(FOLDER)):
        if name != "__pycache__":
            with open(os.path.join(FOLDER, name), encoding="utf-8") as file:
                text = file.read()
            yield name, text, ast.parse(text)


def functions(tree):
    return [node for node in ast.walk(tree) if isinstance(node, ast.FunctionDef)]


def defined_in(tree):
    """The names that a file itself defines."""
    found = [node.name for node in tree.body if isinstance(node, (ast.FunctionDef, ast.ClassDef))]
    for node in tree.body:
        if isinstance(node, ast.Assign):
            found += [target.id for target in node.targets]
    return found


def imports_of(tree):
    return [node for node in ast.walk(tree) if isinstance(node, ast.ImportFrom)]


def names_bound(function):
    """The parameters and the local names of a function."""
    found = [node.id for node in ast.walk(function) if isinstance(node, ast.Name) and isinstance(node.ctx, ast.Store)]
    return found + [node.arg for node in ast.walk(function) if isinstance(node, ast.arg)]


class Language(unittest.TestCase):
    def test_files_and_lines(self):
        for name, text, tree in files():
            with self.subTest(file=name):
                self.assertRegex(name, r"^[a-z0-9_]+\.py$")
                self.assertLessEqual(len(text.splitlines()), 399)
                self.assertTrue(all(sign == "\n" or " " <= sign <= "~" for sign in text))
                self.assertLessEqual(max([len(line) for line in text.splitlines()], default=0), 120)

    def test_functions_are_short(self):
        for name, text, tree in files():
            for function in functions(tree):
                with self.subTest(file=name, function=function.name):
                    self.assertLessEqual(function.end_lineno - function.lineno + 1, 40)

    def test_imports_name_what_the_file_itself_defines(self):
        trees = {"fourfaces." + name[:-3]: tree for name, text, tree in files()}
        for name, text, tree in files():
            for node in imports_of(tree):
                with self.subTest(file=name, module=node.module):
                    self.assertIn(node, tree.body)
                    self.assertTrue(all(alias.asname is None for alias in node.names))
                    if node.module not in LIBRARY:
                        self.assertLessEqual({alias.name for alias in node.names}, set(defined_in(trees[node.module])))

    def test_imports_go_in_no_rings(self):
        graph = {"fourfaces." + name[:-3]: [node.module for node in imports_of(tree)] for name, text, tree in files()}
        while graph:
            free = [name for name in graph if not any(other in graph for other in graph[name])]
            self.assertTrue(free, sorted(graph))
            graph = {name: graph[name] for name in graph if name not in free}

    def test_what_is_imported_is_used(self):
        for name, text, tree in files():
            used = {node.id for node in ast.walk(tree) if isinstance(node, ast.Name)}
            for node in imports_of(tree):
                with self.subTest(file=name, module=node.module):
                    self.assertLessEqual({alias.name for alias in node.names}, used)

    def test_what_is_barred(self):
        for name, text, tree in files():
            for node in ast.walk(tree):
                with self.subTest(file=name, line=getattr(node, "lineno", None)):
                    self.assertNotIsInstance(node, BARRED)
                    if isinstance(node, ast.Constant):
                        self.assertNotIsInstance(node.value, (float, complex))
                        self.assertNotIn("%", str(node.value))
                    if isinstance(node, ast.Name):
                        self.assertTrue(node.id in ALLOWED or node.id not in BUILTINS, node.id)
                        self.assertNotIn(node.id, UNUSED)

    def test_a_name_is_bound_once_at_module_level(self):
        for name, text, tree in files():
            bound = defined_in(tree) + [alias.name for node in imports_of(tree) for alias in node.names]
            with self.subTest(file=name):
                self.assertEqual(len(bound), len(set(bound)))
                self.assertFalse(set(bound) & (BUILTINS | UNUSED))

    def test_local_names(self):
        for name, text, tree in files():
            barred = {node.name for node in tree.body if isinstance(node, ast.ClassDef)} | BUILTINS | UNUSED
            barred |= {alias.name for node in imports_of(tree) for alias in node.names}
            for function in functions(tree):
                reads = {node.id for node in ast.walk(function)
                         if isinstance(node, ast.Name) and isinstance(node.ctx, ast.Load)}
                with self.subTest(file=name, function=function.name):
                    self.assertFalse(set(names_bound(function)) & barred)
                    self.assertNotIn("_", reads)

    def test_no_name_is_a_method_and_an_attribute(self):
        for name, text, tree in files():
            for node in [node for node in tree.body if isinstance(node, ast.ClassDef)]:
                methods = [part.name for part in node.body if isinstance(part, ast.FunctionDef)]
                stored = {part.attr for part in ast.walk(node)
                          if isinstance(part, ast.Attribute) and isinstance(part.ctx, ast.Store)}
                with self.subTest(file=name, kind=node.name):
                    self.assertFalse(set(methods) & stored)

    def test_no_generators(self):
        for name, text, tree in files():
            for node in ast.walk(tree):
                with self.subTest(file=name, line=getattr(node, "lineno", None)):
                    self.assertNotIsInstance(node, (ast.GeneratorExp, ast.Yield, ast.YieldFrom))

    def test_module_level(self):
        """Imports, functions, classes, a docstring, and single names that are assigned plain values."""
        for name, text, tree in files():
            for at, node in enumerate(tree.body):
                with self.subTest(file=name, line=node.lineno):
                    if isinstance(node, ast.Assign):
                        self.assertEqual([type(target) for target in node.targets], [ast.Name])
                        ast.literal_eval(node.value)
                    elif isinstance(node, ast.Expr):
                        self.assertEqual(at, 0)
                    else:
                        self.assertIsInstance(node, (ast.ImportFrom, ast.FunctionDef, ast.ClassDef))

    def test_sets_stand_where_they_may(self):
        """Alone in sorted(..) and len(..), behind in, or assigned to a name by a statement of its own."""
        for name, text, tree in files():
            right = set()
            for node in ast.walk(tree):
                if isinstance(node, ast.Call) and isinstance(node.func, ast.Name) and node.func.id in ("sorted", "len"):
                    right |= {id(part) for part in node.args}
                if isinstance(node, ast.Assign) and [type(target) for target in node.targets] == [ast.Name]:
                    right.add(id(node.value))
            for node in ast.walk(tree):
                is_call = isinstance(node, ast.Call) and isinstance(node.func, ast.Name) and node.func.id == "set"
                if is_call or isinstance(node, (ast.Set, ast.SetComp)):
                    with self.subTest(file=name, line=node.lineno):
                        self.assertIn(id(node), right)

    def test_names_of_methods_and_attributes(self):
        taken = {part for kind in (str, int, list, dict, set, bytes, tuple) for part in dir(kind)}
        methods, attributes = set(), set()
        for name, text, tree in files():
            for node in ast.walk(tree):
                if isinstance(node, ast.ClassDef):
                    methods |= {part.name for part in node.body if isinstance(part, ast.FunctionDef)}
                if isinstance(node, ast.Attribute) and isinstance(node.ctx, ast.Store):
                    attributes.add(node.attr)
        own = {name for name in methods | attributes if not name.startswith("__")}
        self.assertFalse(own & taken)
        self.assertFalse(methods & attributes)

    def test_methods_of_builtin_values(self):
        """No name is sorted in place, and what is iterated over by name is not appended to on the way."""
        for name, text, tree in files():
            self.assertNotIn(".sort(", text)
            for loop in [node for node in ast.walk(tree) if isinstance(node, ast.For) and isinstance(node.iter, ast.Name)]:
                for node in ast.walk(loop):
                    if isinstance(node, ast.Call) and isinstance(node.func, ast.Attribute):
                        with self.subTest(file=name, line=node.lineno):
                            own = isinstance(node.func.value, ast.Name) and node.func.value.id == loop.iter.id
                            self.assertFalse(own and node.func.attr in ("append", "extend", "pop", "update", "clear"))


if __name__ == "__main__":
    unittest.main()
