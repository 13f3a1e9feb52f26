"""Checks of the package's form: those rules of the language that a short look at the code can tell."""

import ast
import builtins
import pathlib
import unittest

PACKAGE = pathlib.Path(__file__).resolve().parent.parent / "millhands"
FILES = sorted(PACKAGE.glob("*.py"))
LIBRARY = {"heapq", "math", "itertools"}
TAKE_LISTS = {"any", "all", "min", "max", "sum", "sorted"}
BUILTINS = set("""len range enumerate zip min max sum abs sorted reversed int str bool list tuple dict set isinstance
ord repr any all divmod iter next Exception map""".split())
METHODS = set("""append bit_length clear copy count endswith extend find get index insert items join keys pop remove
replace reverse setdefault split startswith strip update values""".split())
# What is gone through at once, and where.
PASSING = {"zip", "enumerate", "reversed", "range"}
TAKE_PASSING = {"list", "tuple", "dict", "sorted", "sum", "any", "all", "enumerate", "zip", "min", "max"}
CHANGING = {"append", "pop", "extend", "update", "setdefault", "clear", "insert", "remove", "reverse"}
BARRED_WORDS = {"type", "typing", "enum", "Enum", "Generic", "Protocol", "ABC", "namedtuple", "register", "mro",
                "elements", "open", "input", "law", "eval", "exec", "getattr", "setattr", "hasattr", "vars", "id"}
STATEMENTS = (ast.FunctionDef, ast.ClassDef, ast.Return, ast.Delete, ast.Assign, ast.AugAssign, ast.For, ast.While,
              ast.If, ast.Raise, ast.Assert, ast.ImportFrom, ast.Expr, ast.Pass, ast.Break, ast.Continue, ast.Try)


TREES = [(path, ast.parse(path.read_text())) for path in FILES]


def trees():
    return TREES


def defined_names(tree):
    """The names of classes and functions of a file, and of its values."""
    values = {node.targets[0].id for node in tree.body if isinstance(node, ast.Assign)}
    return values | {node.name for node in tree.body if isinstance(node, (ast.FunctionDef, ast.ClassDef))}


def imported_names(tree):
    return {name.name for node in tree.body if isinstance(node, ast.ImportFrom) for name in node.names}


def bound_names(function):
    """The parameters and local names of a function, those of nested ones, too."""
    for node in ast.walk(function):
        if isinstance(node, ast.arg):
            yield node.arg
        elif isinstance(node, ast.Name) and not isinstance(node.ctx, ast.Load):
            yield node.id
        elif isinstance(node, ast.FunctionDef) and node is not function:
            yield node.name


class Language(unittest.TestCase):
    def test_files_and_lines(self):
        for path in FILES:
            text = path.read_text()
            lines = text.split("\n")
            self.assertLessEqual(len(lines), 400, path)
            self.assertTrue(text.endswith("\n"), path)
            self.assertTrue(all(character == "\n" or " " <= character <= "~" for character in text), path)
            for number, line in enumerate(lines, 1):
                self.assertLessEqual(len(line), 120, (path.name, number))
        left = [path.name for path in PACKAGE.iterdir() if path.suffix != ".py" and path.name != "__pycache__"]
        self.assertEqual(left, [])

    def test_functions_are_short(self):
        for path, tree in trees():
            for node in ast.walk(tree):
                if isinstance(node, ast.FunctionDef):
                    self.assertLessEqual(node.end_lineno - node.lineno + 1, 40, (path.name, node.name))

    def test_statements(self):
        for path, tree in trees():
            for node in ast.walk(tree):
                if isinstance(node, ast.stmt):
                    self.assertIsInstance(node, STATEMENTS, (path.name, node.lineno))
                self.assertNotIsInstance(node, (ast.Div, ast.NamedExpr, ast.Global), path.name)

    def test_imports(self):
        known = {path.stem: defined_names(tree) for path, tree in trees()}
        for path, tree in trees():
            used = {node.id for node in ast.walk(tree) if isinstance(node, ast.Name)}
            for node in tree.body:
                if not isinstance(node, ast.ImportFrom):
                    continue
                self.assertEqual(node.level, 0, path.name)
                for name in node.names:
                    self.assertIsNone(name.asname, path.name)
                    self.assertIn(name.name, used, path.name)
                if node.module not in LIBRARY:
                    stem = node.module.removeprefix("millhands.")
                    self.assertTrue({name.name for name in node.names} <= known[stem], (path.name, stem))

    def test_no_ring_of_imports(self):
        left = {path.stem: {node.module.split(".")[1] for node in tree.body if isinstance(node, ast.ImportFrom)
                            and node.module.startswith("millhands.")} for path, tree in trees()}
        while left:
            free = [stem for stem in left if not left[stem] & set(left)]
            self.assertNotEqual(free, [], left)
            for stem in free:
                del left[stem]

    def test_names(self):
        for path, tree in trees():
            taken = imported_names(tree) | defined_names(tree)
            for node in ast.walk(tree):
                if isinstance(node, ast.FunctionDef):
                    self.assertNotIn(node.name, dir(builtins), path.name)
                    for name in bound_names(node):
                        self.assertNotIn(name, taken, (path.name, node.name))
                        self.assertNotIn(name, dir(builtins), (path.name, node.name))
                if isinstance(node, (ast.Name, ast.Attribute)):
                    name = node.id if isinstance(node, ast.Name) else node.attr
                    self.assertNotIn(name, BARRED_WORDS, path.name)

    def test_calls(self):
        own = {node.name for _, other in trees() for node in ast.walk(other) if isinstance(node, ast.FunctionDef)}
        for path, tree in trees():
            for node in ast.walk(tree):
                if isinstance(node, ast.Call) and isinstance(node.func, ast.Name) and node.func.id in dir(builtins):
                    self.assertIn(node.func.id, BUILTINS, path.name)
                    if node.func.id in TAKE_LISTS:
                        self.assertFalse(any(isinstance(arg, ast.GeneratorExp) for arg in node.args), path.name)
                if isinstance(node, ast.Call) and isinstance(node.func, ast.Attribute):
                    self.assertIn(node.func.attr, METHODS | own, (path.name, node.lineno))

    def test_sets_are_used_on_the_spot(self):
        for path, tree in trees():
            for node in ast.walk(tree):
                for child in ast.iter_child_nodes(node):
                    if isinstance(child, ast.Call) and isinstance(child.func, ast.Name) and child.func.id == "set":
                        self.assertIsInstance(node, ast.Call, path.name)
                        self.assertIn(node.func.id, ("sorted", "len"), path.name)

    def test_tries(self):
        """Only errors of this package are caught, by name; what is done at last only puts names back."""
        errors = defined_names(ast.parse((PACKAGE / "errors.py").read_text()))
        for path, tree in trees():
            for node in ast.walk(tree):
                if not isinstance(node, ast.Try):
                    continue
                for handler in node.handlers:
                    held = handler.type.elts if isinstance(handler.type, ast.Tuple) else [handler.type]
                    self.assertTrue({name.id for name in held} <= errors, (path.name, node.lineno))
                for last in node.finalbody:
                    self.assertIsInstance(last, ast.Assign, (path.name, last.lineno))
                    self.assertTrue(all(isinstance(part, (ast.Tuple, ast.Name, ast.Attribute, ast.expr_context))
                                        for side in (*last.targets, last.value) for part in ast.walk(side)))

    def test_classes(self):
        """No name is a method and an attribute, or a property and anything else; only two decorators."""
        methods, attributes, properties = set(), set(), set()
        for path, tree in trees():
            for node in ast.walk(tree):
                if isinstance(node, ast.Attribute) and isinstance(node.ctx, ast.Store):
                    attributes.add(node.attr)
                if not isinstance(node, ast.ClassDef):
                    continue
                self.assertEqual(node.decorator_list, [])
                for method in [part for part in node.body if isinstance(part, ast.FunctionDef)]:
                    held = [name.id for name in method.decorator_list]
                    self.assertIn(held, ([], ["property"], ["classmethod"]), (path.name, method.name))
                    (properties if held == ["property"] else methods).add(method.name)
        self.assertEqual((methods & attributes, properties & (methods | attributes)), (set(), set()))
        named = {name for name in methods | attributes | properties if not name.startswith("__")}
        self.assertFalse(named & (set(dir(str)) | set(dir(dict)) | set(dir(list)) | set(dir(int)) | set(dir(set))))

    def test_stars(self):
        """Behind a star in a call stands a name, in a tuple or a list nothing that is made on the spot; none in an index."""
        for path, tree in trees():
            for node in ast.walk(tree):
                if isinstance(node, ast.Subscript):
                    self.assertFalse([part for part in ast.walk(node.slice) if isinstance(part, ast.Starred)], path.name)
                if isinstance(node, ast.Call):
                    for star in [part for part in node.args if isinstance(part, ast.Starred)]:
                        self.assertIsInstance(star.value, (ast.Name, ast.Attribute), (path.name, node.lineno))
                if isinstance(node, (ast.Tuple, ast.List)):
                    for star in [part for part in node.elts if isinstance(part, ast.Starred)]:
                        self.assertNotIsInstance(star.value, (ast.ListComp, ast.GeneratorExp, ast.List), (path.name, node.lineno))

    def test_what_passes_is_gone_through_at_once(self):
        for path, tree in trees():
            for node in ast.walk(tree):
                for child in ast.iter_child_nodes(node):
                    if not isinstance(child, ast.Call):
                        continue
                    name = child.func.id if isinstance(child.func, ast.Name) else None
                    if isinstance(child.func, ast.Attribute) and child.func.attr in ("items", "values", "keys"):
                        name = "zip"
                    if name not in PASSING:
                        continue
                    where = getattr(getattr(node, "func", None), "id", None)
                    self.assertTrue((isinstance(node, (ast.For, ast.comprehension)) and node.iter is child) or
                                    where in TAKE_PASSING or (name == "range" and where in ("reversed", "len")) or
                                    (name == "range" and isinstance(node, ast.Compare)), (path.name, child.lineno))

    def test_nothing_is_changed_that_is_gone_through(self):
        for path, tree in trees():
            for loop in [node for node in ast.walk(tree) if isinstance(node, ast.For)]:
                through = {ast.unparse(part) for part in ast.walk(loop.iter) if isinstance(part, (ast.Name, ast.Attribute))}
                for node in [part for row in loop.body for part in ast.walk(row)]:
                    if isinstance(node, ast.Call) and isinstance(node.func, ast.Attribute) and node.func.attr in CHANGING:
                        self.assertNotIn(ast.unparse(node.func.value), through, (path.name, node.lineno))
                    if isinstance(node, ast.Subscript) and isinstance(node.ctx, (ast.Store, ast.Del)):
                        self.assertNotIn(ast.unparse(node.value), through, (path.name, node.lineno))

    def test_module_level_is_plain(self):
        plain = (ast.FunctionDef, ast.ClassDef, ast.ImportFrom, ast.Assign, ast.Expr)
        for path, tree in trees():
            for node in tree.body:
                self.assertIsInstance(node, plain, path.name)
                if isinstance(node, ast.Expr):
                    self.assertIsInstance(node.value, ast.Constant, path.name)
                if isinstance(node, ast.Assign):
                    self.assertEqual(len(node.targets), 1, path.name)
                    ast.literal_eval(node.value)


if __name__ == "__main__":
    unittest.main()
