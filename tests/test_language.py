"""A part of the rules for the code of the package: those that are easily broken by an oversight."""

import ast
import builtins
import pathlib
import re
import unittest

PACKAGE = pathlib.Path(__file__).resolve().parent.parent / "echofields"
FILES = sorted(PACKAGE.glob("*.py"))

BUILTINS = set(
    "len range enumerate zip min max sum abs sorted reversed int str bool list tuple dict set isinstance ord repr any"
    " all divmod pow map iter next property staticmethod classmethod super Exception ValueError TypeError KeyError"
    " IndexError LookupError NotImplemented".split()
)
# Python's prompt, and doctest with it, leaves a name "_" among the builtins.
ALL_BUILTINS = set(vars(builtins)) - {"_"}
BARRED = set("register mro elements open input law typing enum namedtuple dataclass overload contextmanager".split())

MODIFYING = {"append", "extend", "pop", "setdefault"}
# The methods of integers, lists, dicts and strings that are called.
CALLED = MODIFYING | {
    "bit_length", "count", "index", "get", "items", "values", "join", "split", "partition", "isascii", "isdigit",
}
# The methods that change their own object, or, copy alone, one that it has made; no operator runs any of them.
CHANGING = ("__init__", "refill", "_do", "__call__", "copy", "undo", "attempt", "set_calm", "execute")


def nodes(file, *kinds):
    return [node for node in ast.walk(ast.parse(file.read_text())) if isinstance(node, kinds)]


def bound_names(tree):
    found = []
    for node in tree.body:
        if isinstance(node, (ast.FunctionDef, ast.ClassDef)):
            found.append(node.name)
        elif isinstance(node, ast.ImportFrom):
            found.extend(alias.asname or alias.name for alias in node.names)
        elif isinstance(node, ast.Assign):
            found.extend(target.id for target in node.targets)
    return found


def is_assigned(tree, name):
    return any(isinstance(node, ast.Assign) and node.targets[0].id == name for node in tree.body)


class LanguageTest(unittest.TestCase):
    def test_the_folder_holds_plain_files_only(self):
        names = [path.name for path in PACKAGE.iterdir() if path.name != "__pycache__"]
        for name in names:
            self.assertRegex(name, r"^([a-z][a-z0-9_]*|__init__)\.py$")

    def test_sizes(self):
        for file in FILES:
            lines = file.read_text().split("\n")
            self.assertLessEqual(len(lines), 399, file)
            self.assertLessEqual(max(map(len, lines)), 120, file)
            for node in nodes(file, ast.FunctionDef):
                self.assertLessEqual(node.end_lineno - node.lineno + 1, 40, f"{file} {node.name}")

    def test_characters(self):
        for file in FILES:
            self.assertRegex(file.read_text(), r"\A[ -~\n]*\Z", file)

    def test_strings_and_numbers(self):
        for file in FILES:
            for node in nodes(file, ast.Constant):
                self.assertNotIsInstance(node.value, (float, complex), file)
                if isinstance(node.value, str):
                    self.assertNotIn("%", node.value, file)

    def test_imports(self):
        for file in FILES:
            self.assertEqual(nodes(file, ast.Import), [], file)
            for node in nodes(file, ast.ImportFrom):
                first, _, name = node.module.partition(".")
                self.assertEqual((node.level, first), (0, "echofields"), file)
                tree = ast.parse((PACKAGE / f"{name}.py").read_text())
                own = [kept for part in tree.body if not isinstance(part, ast.ImportFrom)
                       for kept in bound_names(ast.Module([part], []))]
                for alias in node.names:
                    self.assertIn(alias.name, own, file)

    def test_what_is_imported_is_read_and_not_named_anew(self):
        for file in FILES:
            tree = ast.parse(file.read_text())
            imported = {alias.name for node in nodes(file, ast.ImportFrom) for alias in node.names}
            read = {node.id for node in nodes(file, ast.Name) if isinstance(node.ctx, ast.Load)}
            self.assertLessEqual(imported, read, file)
            stored = [node.id for node in nodes(file, ast.Name) if not isinstance(node.ctx, ast.Load)]
            stored += [node.arg for node in nodes(file, ast.arg)] + [node.name for node in nodes(file, ast.ExceptHandler)]
            for name in bound_names(tree):
                self.assertEqual(stored.count(name), int(is_assigned(tree, name)), f"{file} {name}")

    def test_no_two_files_import_from_each_other(self):
        needs = {file.stem: {node.module.partition(".")[2] for node in nodes(file, ast.ImportFrom)} for file in FILES}
        while needs:
            ready = {name for name, others in needs.items() if not others & set(needs)}
            self.assertNotEqual(ready, set(), f"in a circle: {sorted(needs)}")
            needs = {name: others for name, others in needs.items() if name not in ready}

    def test_each_name_is_bound_once(self):
        for file in FILES:
            names = bound_names(ast.parse(file.read_text()))
            self.assertEqual(len(names), len(set(names)), file)

    def test_module_level_holds_definitions_only(self):
        allowed = (ast.FunctionDef, ast.ClassDef, ast.ImportFrom, ast.Assign)
        for file in FILES:
            for node in ast.parse(file.read_text()).body[1:]:
                self.assertIsInstance(node, allowed, file)

    def test_names(self):
        for file in FILES:
            stored = {node.id for node in nodes(file, ast.Name) if not isinstance(node.ctx, ast.Load)}
            stored |= {node.arg for node in nodes(file, ast.arg)}
            self.assertEqual(stored & ALL_BUILTINS, set(), file)
            read = {node.id for node in nodes(file, ast.Name) if isinstance(node.ctx, ast.Load)}
            self.assertLessEqual(read & ALL_BUILTINS, BUILTINS, file)
            self.assertEqual(BARRED & set(re.findall(r"\w+", file.read_text())), set(), file)

    def test_statements(self):
        for file in FILES:
            self.assertEqual(nodes(file, ast.Global, ast.AsyncFunctionDef, ast.Await, ast.Div), [], file)

    def test_what_operators_bar_in_the_package(self):
        own = {method.name for file in FILES for kind in nodes(file, ast.ClassDef) for method in methods_of(kind)}
        for file in FILES:
            # A class has +=, so it stands in the code of callers alone; a class has ==, so any and all take lists.
            self.assertEqual(nodes(file, ast.AugAssign, ast.GeneratorExp), [], file)
            for node in nodes(file, ast.Call):
                if isinstance(node.func, ast.Attribute):
                    self.assertIn(node.func.attr, CALLED | own, file)

    def test_functions_change_only_what_they_made(self):
        for file in FILES:
            for function in nodes(file, ast.FunctionDef):
                if function.name not in CHANGING:
                    made, spoilt = changes(function)
                    self.assertLessEqual(spoilt, made, f"{file} {function.name}")


    def test_what_operators_and_properties_run(self):
        called = {}
        for file in FILES:
            for function in nodes(file, ast.FunctionDef):
                # A property that is set has the name of the one that is read, and is run by neither.
                if not any(ast.unparse(node).endswith(".setter") for node in function.decorator_list):
                    called.setdefault(function.name, set()).update(names_called(function))
        quiet = {function.name for file in FILES for kind in nodes(file, ast.ClassDef) for function in methods_of(kind)
                 if is_quiet(function)}
        self.assertGreater(len(quiet), 8)
        while True:
            more = quiet | {name for function in quiet for name in called.get(function, ()) if name in called}
            if more == quiet:
                break
            quiet = more
        self.assertIn("find_endless", quiet)
        self.assertEqual(quiet & set(CHANGING), set())
        for file in FILES:
            for function in nodes(file, ast.FunctionDef):
                if function.name in quiet:
                    found = [node for node in ast.walk(function) if isinstance(node, (ast.Yield, ast.YieldFrom, ast.Delete))]
                    self.assertEqual(found, [], f"{file} {function.name}")


def methods_of(kind):
    return [node for node in kind.body if isinstance(node, ast.FunctionDef)]


def is_quiet(method):
    """Tell whether a method is an operator that changes nothing, or a property that is read."""
    decorators = [ast.unparse(node) for node in method.decorator_list]
    if decorators:
        return decorators == ["property"]
    changing = ("__init__", "__call__", "__setitem__", "__iadd__", "__isub__")
    return method.name.startswith("__") and method.name not in changing


def names_called(function):
    calls = [node.func for node in ast.walk(function) if isinstance(node, ast.Call)]
    return {node.id if isinstance(node, ast.Name) else node.attr for node in calls}


def changes(function):
    """Return the names that a function assigns nothing but new lists and dicts, and those of what it changes."""
    assigned = [node for node in ast.walk(function) if isinstance(node, ast.Assign)]
    made, other, spoilt = set(), set(), set()
    for node in assigned:
        for target in node.targets:
            if isinstance(target, ast.Name):
                (made if is_new(node.value) else other).add(target.id)
            elif isinstance(target, (ast.Subscript, ast.Attribute)):
                spoilt.add(root(target))
    for node in ast.walk(function):
        if isinstance(node, ast.Call) and isinstance(node.func, ast.Attribute) and node.func.attr in MODIFYING:
            spoilt.add(root(node.func.value))
    return made - other, spoilt


def root(node):
    while not isinstance(node, ast.Name):
        node = node.func if isinstance(node, ast.Call) else node.value
    return node.id


def is_new(node):
    if isinstance(node, (ast.List, ast.Dict, ast.ListComp, ast.DictComp)):
        return True
    if isinstance(node, ast.BinOp):
        return is_new(node.left)
    return isinstance(node, ast.Call) and isinstance(node.func, ast.Name) and node.func.id in ("list", "dict", "sorted")


if __name__ == "__main__":
    unittest.main()
