"""The package keeps to the subset of the language that is let: what can be seen by reading the files."""

import ast
import builtins
import pathlib
import unittest
import warnings

FOLDER = pathlib.Path(__file__).resolve().parent.parent / "leastlabour"
LIBRARY = {"math": {"gcd", "lcm", "isqrt", "comb", "perm", "factorial"}}
BUILTINS = {
    "len", "range", "enumerate", "zip", "min", "max", "sum", "abs", "sorted", "reversed", "int", "str", "bool", "list",
    "tuple", "dict", "set", "isinstance", "ord", "repr", "any", "all", "divmod", "ValueError", "TypeError", "KeyError",
    "IndexError", "LookupError", "ZeroDivisionError", "RuntimeError", "NotImplementedError", "iter", "property"}
METHODS = {
    "append", "clear", "copy", "count", "endswith", "extend", "find", "get", "index", "insert", "isalnum", "isalpha",
    "isdigit", "items", "join", "keys", "lower", "lstrip", "partition", "pop", "remove", "replace", "reverse", "rfind",
    "rpartition", "rsplit", "rstrip", "setdefault", "split", "splitlines", "startswith", "strip", "update", "upper",
    "values", "bit_length"}
BARRED_ATTRIBUTES = {
    "items", "keys", "values", "pop", "update", "append", "clear", "extend", "insert", "remove", "reverse",
    "setdefault", "sort", "args", "encode", "decode", "hex", "fromhex", "format", "format_map", "mro", "real", "imag",
    "numerator", "denominator"}
BARRED_NAMES = {
    "register", "mro", "elements", "open", "input", "law", "version_info", "with_traceback", "add_note", "attrgetter",
    "breakpoint", "builtins", "compile", "copyright", "credits", "delattr", "dir", "eval", "exec", "exit", "gc",
    "globals", "help", "id", "importlib", "license", "locals", "methodcaller", "os", "quit", "setattr", "super",
    "type", "vars", "sys"}
DUNDERS = {"__init__", "__eq__", "__repr__", "__str__", "__len__", "__enter__", "__exit__", "__iter__"}
STATEMENTS = (
    ast.Assign, ast.AugAssign, ast.If, ast.While, ast.For, ast.Return, ast.Break, ast.Continue, ast.Pass, ast.Raise,
    ast.Assert, ast.Delete, ast.Nonlocal, ast.With, ast.Try, ast.Expr, ast.FunctionDef, ast.ClassDef, ast.ImportFrom)
EATERS = {"list", "tuple", "dict", "sorted", "sum", "min", "max", "any", "all", "enumerate", "zip"}
TAKES_LIST = {"any", "all", "min", "max", "sum", "sorted"}
VIEWS = {"range", "zip", "enumerate", "reversed"}

FILES = sorted(FOLDER.glob("*.py"))
TREES = {path.name: ast.parse(path.read_text()) for path in FILES}


def functions(tree):
    return [node for node in ast.walk(tree) if isinstance(node, ast.FunctionDef)]


def bound_names(function):
    """The parameters and local names of a function."""
    told = function.args
    names = [arg.arg for arg in told.posonlyargs + told.args + told.kwonlyargs]
    for node in ast.walk(function):
        if isinstance(node, ast.Name) and isinstance(node.ctx, (ast.Store, ast.Del)):
            names.append(node.id)
        if isinstance(node, ast.arg):
            names.append(node.arg)
        if isinstance(node, ast.ExceptHandler) and node.name:
            names.append(node.name)
    return set(names)


def defined_at_top(tree):
    names = []
    for node in tree.body:
        if isinstance(node, (ast.FunctionDef, ast.ClassDef)):
            names.append(node.name)
        if isinstance(node, ast.Assign):
            names += [target.id for target in node.targets]
        if isinstance(node, ast.ImportFrom):
            names += [alias.name for alias in node.names]
    return names


def parents_of(tree):
    return {child: node for node in ast.walk(tree) for child in ast.iter_child_nodes(node)}


def called_name(node):
    if isinstance(node, ast.Call) and isinstance(node.func, ast.Name):
        return node.func.id
    return None


GENERATORS = {function.name for tree in TREES.values() for function in functions(tree)
              if any(isinstance(node, (ast.Yield, ast.YieldFrom)) for node in ast.walk(function))}
CLASSES = {node.name for tree in TREES.values() for node in ast.walk(tree) if isinstance(node, ast.ClassDef)}
OWN_METHODS = {part.name for tree in TREES.values() for node in ast.walk(tree) if isinstance(node, ast.ClassDef)
               for part in node.body if isinstance(part, ast.FunctionDef)}


class TestFiles(unittest.TestCase):
    def test_folder(self):
        others = [path.name for path in FOLDER.iterdir() if path.suffix != ".py" and path.name != "__pycache__"]
        self.assertEqual(others, [])
        for path in FILES:
            self.assertTrue(path.stem.replace("_", "").isalnum() and path.stem == path.stem.lower())

    def test_sizes_and_signs(self):
        for path in FILES:
            text = path.read_text()
            rows = text.split("\n")
            self.assertTrue(len(rows) <= 399, path.name)
            for number, row in enumerate(rows, 1):
                self.assertTrue(len(row) <= 120, (path.name, number))
                self.assertTrue(all(" " <= sign <= "~" for sign in row), (path.name, number))

    def test_functions_have_at_most_40_rows(self):
        for name, tree in TREES.items():
            for function in functions(tree):
                self.assertTrue(function.end_lineno - function.lineno < 40, (name, function.name))

    def test_no_warnings(self):
        for path in FILES:
            with warnings.catch_warnings():
                warnings.simplefilter("error")
                compile(path.read_text(), path.name, "exec")


class TestModules(unittest.TestCase):
    def test_top_level(self):
        kinds = (ast.ImportFrom, ast.FunctionDef, ast.ClassDef, ast.Assign)
        for name, tree in TREES.items():
            for at, node in enumerate(tree.body):
                docstring = at == 0 and isinstance(node, ast.Expr) and isinstance(node.value, ast.Constant)
                self.assertTrue(docstring or isinstance(node, kinds), (name, node.lineno))
            names = defined_at_top(tree)
            self.assertEqual(len(names), len(set(names)), name)

    def test_imports(self):
        for name, tree in TREES.items():
            for node in ast.walk(tree):
                self.assertNotIsInstance(node, ast.Import)
                if not isinstance(node, ast.ImportFrom):
                    continue
                self.assertEqual((node.level, node.col_offset), (0, 0))
                package, _, module = node.module.partition(".")
                for alias in node.names:
                    self.assertIsNone(alias.asname)
                    if package == "leastlabour":
                        own = [part for part in TREES[module + ".py"].body if not isinstance(part, ast.ImportFrom)]
                        self.assertIn(alias.name, defined_at_top(ast.Module(own, [])), (name, alias.name))
                    else:
                        self.assertIn(alias.name, LIBRARY[node.module], name)

    def test_what_is_imported_is_used(self):
        for name, tree in TREES.items():
            used = {node.id for node in ast.walk(tree) if isinstance(node, ast.Name)}
            for node in tree.body:
                if isinstance(node, ast.ImportFrom):
                    self.assertEqual([alias.name for alias in node.names if alias.name not in used], [], name)

    def test_no_imports_in_a_ring(self):
        needs = {name: {node.module.split(".")[1] + ".py" for node in tree.body
                        if isinstance(node, ast.ImportFrom) and node.module.startswith("leastlabour.")}
                 for name, tree in TREES.items()}
        while needs:
            free = [name for name, others in needs.items() if not others & set(needs)]
            self.assertTrue(free, needs)
            needs = {name: others for name, others in needs.items() if name not in free}


class TestCode(unittest.TestCase):
    def test_statements(self):
        for name, tree in TREES.items():
            for node in ast.walk(tree):
                if isinstance(node, ast.stmt):
                    self.assertIsInstance(node, STATEMENTS, (name, node.lineno))
                if isinstance(node, (ast.FunctionDef, ast.ClassDef)):
                    self.assertEqual([part.id for part in node.decorator_list if part.id != "property"], [], name)
                self.assertNotIsInstance(node, (ast.Await, ast.AnnAssign, ast.Set, ast.SetComp, ast.Global), name)

    def test_names(self):
        words = set(dir(builtins))
        for name, tree in TREES.items():
            taken = {alias.name for node in tree.body if isinstance(node, ast.ImportFrom) for alias in node.names}
            taken |= CLASSES | words | BARRED_NAMES
            for function in functions(tree):
                self.assertEqual(bound_names(function) & taken, set(), (name, function.name))
                self.assertFalse(function.name in words and function.name not in OWN_METHODS, (name, function.name))
            for node in ast.walk(tree):
                if isinstance(node, ast.FunctionDef) and node.name.startswith("__"):
                    self.assertIn(node.name, DUNDERS)
                if isinstance(node, ast.Attribute) and isinstance(node.ctx, ast.Store):
                    self.assertNotIn(node.attr, BARRED_ATTRIBUTES)

    def test_properties(self):
        stored = {node.attr for tree in TREES.values() for node in ast.walk(tree)
                  if isinstance(node, ast.Attribute) and isinstance(node.ctx, ast.Store)}
        for name, tree in TREES.items():
            parents = parents_of(tree)
            for node in ast.walk(tree):
                if isinstance(node, ast.Name) and node.id == "property":
                    function = parents[node]
                    self.assertIn(node, function.decorator_list, name)
                    self.assertNotIn(function.name, stored | BARRED_ATTRIBUTES)
                    self.assertEqual([arg.arg for arg in function.args.args], ["self"])
                    changing = [part for part in ast.walk(function) if isinstance(part, (ast.AugAssign, ast.Delete))]
                    self.assertEqual(changing, [], name)

    def test_what_stands_in_finally_and_exit(self):
        for name, tree in TREES.items():
            for node in ast.walk(tree):
                rows = node.finalbody if isinstance(node, ast.Try) else []
                if isinstance(node, ast.FunctionDef) and node.name == "__exit__":
                    rows = [row for row in node.body if not isinstance(row.value, ast.Constant)]
                for row in rows:
                    self.assertIsInstance(row, ast.Assign, (name, row.lineno))
                    for part in ast.walk(row.value):
                        self.assertIsInstance(part, (ast.Name, ast.Attribute, ast.Tuple, ast.Load), (name, row.lineno))

    def test_builtins(self):
        words = set(dir(builtins))
        for name, tree in TREES.items():
            for node in ast.walk(tree):
                if isinstance(node, ast.Name) and node.id in words:
                    self.assertIn(node.id, BUILTINS, (name, node.lineno))

    def test_methods_of_builtin_values(self):
        for name, tree in TREES.items():
            for node in ast.walk(tree):
                if isinstance(node, ast.Call) and isinstance(node.func, ast.Attribute):
                    self.assertIn(node.func.attr, METHODS | OWN_METHODS, (name, node.lineno))

    def test_signs_and_values(self):
        for name, tree in TREES.items():
            for node in ast.walk(tree):
                where = (name, getattr(node, "lineno", 0))
                self.assertNotIsInstance(node, (ast.Div, ast.MatMult), where)
                if isinstance(node, ast.Constant):
                    self.assertNotIsInstance(node.value, (float, complex), where)
                    if isinstance(node.value, str):
                        self.assertNotIn("%", node.value, where)
                if isinstance(node, ast.Compare):
                    for sign, right in zip(node.ops, node.comparators):
                        if isinstance(sign, (ast.Is, ast.IsNot)):
                            self.assertIn(getattr(right, "value", 0), (None, True, False), where)
                if isinstance(node, ast.Raise) and node.exc is not None:
                    self.assertIsInstance(node.exc, ast.Call, where)
                if isinstance(node, ast.ExceptHandler):
                    caught = node.type.elts if isinstance(node.type, ast.Tuple) else [node.type]
                    self.assertTrue(all(error.id in CLASSES for error in caught), where)

    def test_generators_and_views_are_iterated_at_once(self):
        for name, tree in TREES.items():
            parents = parents_of(tree)
            for node in ast.walk(tree):
                where = (name, getattr(node, "lineno", 0))
                parent = parents.get(node)
                if isinstance(node, ast.GeneratorExp):
                    self.assertIn(called_name(parent), {"list", "tuple", "dict"}, where)
                if called_name(node) in GENERATORS | VIEWS:
                    if isinstance(parent, (ast.For, ast.comprehension)):
                        self.assertIs(parent.iter, node, where)
                    elif isinstance(parent, ast.YieldFrom):
                        continue
                    else:
                        self.assertIn(called_name(parent), EATERS, where)
                        if called_name(node) in GENERATORS:
                            self.assertNotIn(called_name(parent), TAKES_LIST, where)
                if isinstance(node, ast.Name) and isinstance(node.ctx, ast.Load) and node.id in GENERATORS:
                    self.assertTrue(isinstance(parent, ast.Call) and parent.func is node, where)

    def test_words_that_stand_nowhere(self):
        barred = {"type", "typing", "enum", "Enum", "Generic", "Protocol", "ABC", "namedtuple", "dataclass", "overload",
                  "contextmanager", "_wall"}
        for path in FILES:
            words = path.read_text()
            for sign in "()[]{}.,:=\"'`":
                words = words.replace(sign, " ")
            self.assertEqual(set(words.split()) & barred, set(), path.name)


if __name__ == "__main__":
    unittest.main()
