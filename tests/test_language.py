"""Some rules of LANGUAGE.md that can be looked up in the code: imports, names, statements, sizes, characters."""

import ast
import builtins
import pathlib
import unittest

PACKAGE = pathlib.Path(__file__).resolve().parent.parent / "dueanywhere"
BUILTINS = {"len", "range", "enumerate", "zip", "min", "max", "sum", "abs", "sorted", "reversed", "int", "str", "bool",
            "list", "tuple", "dict", "set", "isinstance", "repr", "any", "all", "divmod", "iter", "ValueError"}
LIBRARY = {"heapq": {"heappush", "heappop"}, "math": {"gcd", "lcm", "isqrt", "comb"}}
METHODS = {"append", "extend", "insert", "pop", "get", "items", "keys", "values", "index", "count", "find", "join",
           "split", "isdigit", "startswith", "endswith", "setdefault", "add", "copy", "reverse", "partition",
           "__init__"}
OWN_METHODS = {"bill", "pay", "send", "tie", "close", "undo", "begin", "keep", "drop", "twin", "system", "spot", "mark",
               "day_range", "arrears", "in_flight", "cleared", "clearing", "late", "report", "present", "rest",
               "execute"}
PROPERTIES = {"places", "log", "book", "depth"}
COMPREHENSIONS = (ast.ListComp, ast.DictComp, ast.SetComp)
BARRED = (ast.Global, ast.AsyncFunctionDef, ast.Await, ast.Div, ast.GeneratorExp, ast.Try, ast.With, ast.Starred,
          ast.Set, ast.Delete, ast.JoinedStr)
# Of the barred ones LANGUAGE.md allows some with conditions; what is used here is named, and its conditions hold.
# A try holds one call of an own function, and catches an own error.
USED = {"kinds.py": (ast.JoinedStr,), "words.py": (ast.JoinedStr,), "console.py": (ast.Try,), "house.py": (ast.Try,)}


def files():
    return sorted(PACKAGE.rglob("*.py"))


def trees():
    return [(path, ast.parse(path.read_text())) for path in files()]


class Files(unittest.TestCase):
    def test_the_folder_holds_python_files_alone(self):
        for path in PACKAGE.rglob("*"):
            if "__pycache__" not in path.parts:
                self.assertTrue(path.is_dir() or path.suffix == ".py", path)

    def test_sizes_and_characters(self):
        for path in files():
            text = path.read_text()
            rows = text.split("\n")
            self.assertLessEqual(len(rows), 400, path)
            self.assertLessEqual(max(len(row) for row in rows), 120, path)
            self.assertTrue(all(" " <= letter <= "~" or letter == "\n" for letter in text), path)
            self.assertNotIn("_wall", text)

    def test_functions_have_at_most_40_lines(self):
        for path, tree in trees():
            for node in ast.walk(tree):
                if isinstance(node, ast.FunctionDef):
                    self.assertLessEqual(node.end_lineno - node.lineno + 1, 40, f"{path} {node.name}")

    def test_properties_alone_are_decorated(self):
        for path, tree in trees():
            for node in ast.walk(tree):
                if isinstance(node, (ast.FunctionDef, ast.ClassDef)):
                    told = [decorator.id for decorator in node.decorator_list]
                    self.assertEqual(told, ["property"] if node.name in PROPERTIES else [], f"{path} {node.name}")

    def test_everything_has_a_docstring(self):
        for path, tree in trees():
            for node in ast.walk(tree):
                if isinstance(node, (ast.Module, ast.ClassDef)) or (
                        isinstance(node, ast.FunctionDef) and node.name != "__init__"):
                    self.assertTrue(ast.get_docstring(node), f"{path} {getattr(node, 'name', '')}")


class Imports(unittest.TestCase):
    def test_they_stand_at_the_top_and_name_the_file_that_defines(self):
        for path, tree in trees():
            for node in ast.walk(tree):
                self.assertNotIsInstance(node, ast.Import, path)
                if isinstance(node, ast.ImportFrom):
                    self.assertEqual((node.level, node.col_offset), (0, 0), path)
                    self.assert_defined(path, node)

    def assert_defined(self, path, node):
        for alias in node.names:
            self.assertIsNone(alias.asname, path)
            if node.module in LIBRARY:
                self.assertIn(alias.name, LIBRARY[node.module], path)
                continue
            package, module = node.module.split(".")
            self.assertEqual(package, "dueanywhere")
            self.assertIn(alias.name, bound_at_top(ast.parse((PACKAGE / f"{module}.py").read_text())), path)

    def test_each_import_is_used(self):
        for path, tree in trees():
            read = {node.id for node in ast.walk(tree) if isinstance(node, ast.Name)}
            for node in tree.body:
                if isinstance(node, ast.ImportFrom):
                    self.assertTrue({alias.name for alias in node.names} <= read, f"{path} {node.lineno}")

    def test_no_two_files_import_from_each_other(self):
        edges = {}
        for path, tree in trees():
            edges[path.stem] = {node.module.split(".")[-1] for node in tree.body if isinstance(node, ast.ImportFrom)}
        while edges:
            free = [name for name, needs in edges.items() if not needs & set(edges)]
            self.assertTrue(free, edges)
            edges = {name: needs for name, needs in edges.items() if name not in free}


def bound_at_top(tree):
    """The names that functions, classes and assignments bind at module level."""
    return [node.name if isinstance(node, (ast.FunctionDef, ast.ClassDef)) else node.targets[0].id
            for node in tree.body if isinstance(node, (ast.FunctionDef, ast.ClassDef, ast.Assign))]


class Names(unittest.TestCase):
    def test_each_name_is_bound_once(self):
        for path, tree in trees():
            told = bound_at_top(tree) + imported(tree)
            self.assertEqual(len(told), len(set(told)), path)
            self.assertFalse(set(told) & set(dir(builtins)), path)

    def test_local_names_hide_nothing(self):
        for path, tree in trees():
            barred = set(imported(tree)) | set(dir(builtins)) | set(bound_at_top(tree))
            for node in ast.walk(tree):
                if isinstance(node, ast.FunctionDef):
                    self.assertFalse(local_names(node) & barred, f"{path} {node.name} {local_names(node) & barred}")

    def test_inner_comprehensions_have_names_of_their_own(self):
        for path, tree in trees():
            for function in [node for node in ast.walk(tree) if isinstance(node, ast.FunctionDef)]:
                for outer in [node for node in ast.walk(function) if isinstance(node, COMPREHENSIONS)]:
                    for inner in [node for node in ast.walk(outer) if isinstance(node, COMPREHENSIONS)]:
                        if inner is not outer:
                            others = names_outside(function) | targets_of(outer)
                            self.assertFalse(targets_of(inner) & others, f"{path} {inner.lineno}")

    def test_only_told_builtins_and_methods_are_called(self):
        for path, tree in trees():
            for node in ast.walk(tree):
                if isinstance(node, ast.Name) and node.id in dir(builtins) and node.id != "property":
                    self.assertIn(node.id, BUILTINS, f"{path} {node.lineno}")
                if isinstance(node, ast.Call) and isinstance(node.func, ast.Attribute):
                    name = node.func.attr
                    own = isinstance(node.func.value, ast.Name) and node.func.value.id in ("self", "found")
                    known = METHODS | OWN_METHODS
                    self.assertTrue(name in known or own and name.startswith("_"), f"{path} {node.lineno} {name}")


def imported(tree):
    return [alias.name for node in tree.body if isinstance(node, ast.ImportFrom) for alias in node.names]


def local_names(function):
    """The parameters of a function and what it assigns."""
    stored = {node.id for node in ast.walk(function) if isinstance(node, ast.Name) and isinstance(node.ctx, ast.Store)}
    return stored | {argument.arg for argument in function.args.args + function.args.kwonlyargs}


def targets_of(comprehension):
    """The names that a comprehension assigns itself."""
    return {node.id for part in comprehension.generators for node in ast.walk(part.target) if isinstance(node, ast.Name)}


def names_outside(function):
    """The parameters of a function, and what it assigns outside of comprehensions."""
    within = {id(node) for part in ast.walk(function) if isinstance(part, COMPREHENSIONS) for node in ast.walk(part)}
    stored = {node.id for node in ast.walk(function)
              if isinstance(node, ast.Name) and isinstance(node.ctx, ast.Store) and id(node) not in within}
    return stored | {argument.arg for argument in function.args.args + function.args.kwonlyargs}


class Statements(unittest.TestCase):
    def test_none_of_the_barred_kinds(self):
        for path, tree in trees():
            barred = tuple(kind for kind in BARRED if kind not in USED.get(path.name, ()))
            for node in ast.walk(tree):
                self.assertNotIsInstance(node, barred, f"{path} {getattr(node, 'lineno', 0)}")

    def test_own_errors_alone_are_caught_around_one_call(self):
        for path, tree in trees():
            for node in ast.walk(tree):
                if isinstance(node, ast.Try):
                    self.assertEqual((len(node.body), len(node.handlers), node.finalbody), (1, 1, []), path)
                    self.assertIsInstance(node.body[0].value, ast.Call, path)
                    self.assertIn(node.handlers[0].type.id, ("DueError", "InvalidWords"), path)

    def test_constants(self):
        for path, tree in trees():
            for node in ast.walk(tree):
                if isinstance(node, ast.Constant):
                    self.assertNotIsInstance(node.value, (float, complex, bytes), f"{path} {node.lineno}")
                    self.assertNotIn("%", str(node.value), f"{path} {node.lineno}")

    def test_modules_hold_definitions_alone(self):
        for path, tree in trees():
            for node in tree.body[1:]:
                self.assertIsInstance(node, (ast.ImportFrom, ast.FunctionDef, ast.ClassDef, ast.Assign), path)

    def test_sets_and_views_are_used_on_the_spot(self):
        for path, tree in trees():
            on_the_spot = [part for node in ast.walk(tree) for part in read_at_once(node)]
            for node in ast.walk(tree):
                if isinstance(node, ast.Call) and isinstance(node.func, ast.Name):
                    if node.func.id in ("set", "zip", "enumerate", "reversed", "range"):
                        self.assertIn(node, on_the_spot, f"{path} {node.lineno}")


def read_at_once(node):
    """What a loop or a call reads at once."""
    if isinstance(node, (ast.For, ast.comprehension)):
        return [node.iter]
    if isinstance(node, ast.Call) and isinstance(node.func, ast.Name):
        if node.func.id in ("sorted", "len", "list", "enumerate", "reversed", "zip"):
            return node.args
    return []


if __name__ == "__main__":
    unittest.main()
