"""The form of the package's files: what can be checked of LANGUAGE.md."""

import ast
import builtins
import pathlib
import unittest

FOLDER = pathlib.Path(__file__).resolve().parent.parent / "plinth"
FILES = sorted(FOLDER.rglob("*.py"))

BUILTINS = set("""len range enumerate zip min max sum abs sorted reversed int str bool list tuple dict set
    isinstance ord repr any all divmod pow getattr hasattr setattr iter next map property staticmethod classmethod
    super object Exception ValueError TypeError KeyError IndexError LookupError ZeroDivisionError ArithmeticError
    OverflowError RuntimeError NotImplementedError StopIteration NotImplemented""".split())
METHODS = set("""append clear copy count endswith extend find get index insert isalnum isalpha isdigit islower isspace
    isupper items join keys ljust lower lstrip partition pop remove replace reverse rfind rjust rpartition rsplit
    rstrip setdefault split splitlines startswith strip update upper values zfill bit_length add discard
    removeprefix removesuffix isascii""".split())
BARRED = set("""register mro elements open input law version_info with_traceback add_note""".split())
BARRED_NAMES = BARRED | set("""attrgetter breakpoint builtins compile copyright credits delattr dir eval exec exit gc
    globals help id importlib license locals methodcaller os quit type vars sys chr float print bytes frozenset
    format hash input object""".split())
STATEMENTS = (
    ast.Assign, ast.AugAssign, ast.AnnAssign, ast.If, ast.While, ast.For, ast.Return, ast.Break, ast.Continue,
    ast.Pass, ast.Raise, ast.Assert, ast.Delete, ast.Nonlocal, ast.Match, ast.With, ast.Try, ast.Expr,
    ast.FunctionDef, ast.ClassDef, ast.ImportFrom,
)
# What may be imported from outside of the package.
LIBRARY = {"heapq": {"heappush", "heappop", "heapify", "heapreplace", "heappushpop"}}
# No attribute has the name of one of these methods.
BARRED_ATTRIBUTES = set("""items keys values pop update append clear extend insert remove reverse setdefault sort args
    encode decode hex fromhex format format_map mro""".split())
DUNDERS = {"__init__", "__eq__", "__repr__", "__str__", "__len__", "__enter__", "__exit__", "__call__", "__iter__"}


def parsed():
    """The trees of all files, by the names of their modules."""
    trees = {}
    for path in FILES:
        name = ".".join(path.relative_to(FOLDER.parent).with_suffix("").parts)
        trees[name] = ast.parse(path.read_text(encoding="utf-8"))
    return trees


def bound_at_top(tree):
    """The names that a file defines at its module level, imports left out."""
    names = []
    for row in tree.body:
        if isinstance(row, (ast.FunctionDef, ast.ClassDef)):
            names.append(row.name)
        elif isinstance(row, ast.Assign):
            names.extend(target.id for target in row.targets)
    return names


def all_nodes():
    """Pairs of a module's name and a node, for all nodes of all files."""
    return [(name, node) for name, tree in parsed().items() for node in ast.walk(tree)]


def is_plain(node, functions):
    """Whether a value at module level is written out."""
    if isinstance(node, (ast.List, ast.Tuple)):
        return all(is_plain(part, functions) for part in node.elts)
    if isinstance(node, ast.Dict):
        return all(is_plain(part, functions) for part in node.keys + node.values)
    if isinstance(node, ast.UnaryOp):
        return isinstance(node.op, ast.USub) and isinstance(node.operand, ast.Constant)
    return isinstance(node, ast.Constant) or isinstance(node, ast.Name) and node.id in functions


class FilesTest(unittest.TestCase):
    def test_names_and_characters(self):
        self.assertTrue((FOLDER / "__init__.py").exists())
        for path in FILES:
            self.assertRegex(path.name, "^[a-z_][a-z0-9_]*[.]py$")
            for character in path.read_text(encoding="utf-8"):
                self.assertTrue(character == "\n" or " " <= character <= "~", (path, character))

    def test_sizes(self):
        for path in FILES:
            lines = path.read_text(encoding="utf-8").split("\n")
            self.assertLessEqual(len(lines), 400, path)
            self.assertLessEqual(max(len(line) for line in lines), 120, path)
        for name, node in all_nodes():
            if isinstance(node, ast.FunctionDef):
                self.assertLessEqual(node.end_lineno - node.lineno + 1, 40, (name, node.name))


class StatementsTest(unittest.TestCase):
    def test_imports(self):
        trees = parsed()
        for name, node in all_nodes():
            self.assertNotIsInstance(node, ast.Import, name)
            if isinstance(node, ast.ImportFrom):
                self.assertEqual(0, node.level, name)
                self.assertIn(node.module, list(trees) + list(LIBRARY), name)
                bound = LIBRARY.get(node.module) or bound_at_top(trees[node.module])
                for alias in node.names:
                    self.assertIn(alias.name, bound, name)
                    self.assertIsNone(alias.asname, name)

    def test_imports_are_used(self):
        for name, tree in parsed().items():
            used = {node.id for node in ast.walk(tree) if isinstance(node, ast.Name)}
            for row in tree.body:
                if isinstance(row, ast.ImportFrom):
                    for alias in row.names:
                        self.assertIn(alias.asname or alias.name, used, name)

    def test_no_circle_of_imports(self):
        above = {name: [row.module for row in tree.body if isinstance(row, ast.ImportFrom)]
                 for name, tree in parsed().items()}
        while above:
            free = [name for name, modules in above.items() if not any(module in above for module in modules)]
            self.assertTrue(free, above)
            above = {name: above[name] for name in above if name not in free}

    def test_module_level(self):
        for name, tree in parsed().items():
            functions = []
            for row in tree.body:
                if isinstance(row, ast.Assign):
                    self.assertEqual(1, len(row.targets), name)
                    self.assertTrue(is_plain(row.value, functions), (name, row.lineno))
                elif isinstance(row, ast.Expr):
                    self.assertIsInstance(row.value.value, str, name)
                else:
                    self.assertIsInstance(row, (ast.FunctionDef, ast.ClassDef, ast.ImportFrom), name)
                    functions.append(getattr(row, "name", None))
            self.assertEqual(len(bound_at_top(tree)), len(set(bound_at_top(tree))), name)

    def test_kinds_of_statements(self):
        for name, node in all_nodes():
            if isinstance(node, ast.stmt):
                self.assertIsInstance(node, STATEMENTS, (name, node.lineno))
            if isinstance(node, ast.ClassDef):
                self.assertEqual([], node.decorator_list, name)
            if isinstance(node, ast.ExceptHandler):
                self.assertIsNotNone(node.type, name)

    def test_methods_in_classes(self):
        for name, node in all_nodes():
            if isinstance(node, ast.ClassDef):
                methods = [row.name for row in node.body if isinstance(row, ast.FunctionDef)]
                self.assertEqual(len(methods), len(set(methods)), (name, node.name))
                for method in methods:
                    self.assertTrue(not method.startswith("__") or method in DUNDERS, (name, method))


    def test_methods_and_attributes_of_a_class(self):
        for name, node in all_nodes():
            if isinstance(node, ast.ClassDef):
                methods = {row.name for row in node.body if isinstance(row, ast.FunctionDef)}
                attributes = {part.attr for part in ast.walk(node)
                              if isinstance(part, ast.Attribute) and isinstance(part.ctx, ast.Store)}
                self.assertFalse(methods & attributes, (name, node.name))

    def test_ends_of_with_statements(self):
        allowed = (ast.Assign, ast.If, ast.Name, ast.Attribute, ast.Compare, ast.BoolOp, ast.Or, ast.And, ast.Is,
                   ast.IsNot,
                   ast.Constant, ast.Load, ast.Store)
        for name, node in all_nodes():
            if isinstance(node, ast.FunctionDef) and node.name == "__exit__":
                self.assertEqual(["self", "kind", "value", "trace"], [part.arg for part in node.args.args], name)
                for part in [part for row in node.body for part in ast.walk(row)]:
                    self.assertIsInstance(part, allowed, (name, node.lineno))
                    self.assertNotIn(getattr(part, "id", None), ("value", "trace"), name)

    def test_errors_that_are_caught(self):
        own = bound_at_top(parsed()["plinth.errors"])
        for name, node in all_nodes():
            if isinstance(node, ast.ExceptHandler):
                self.assertIn(node.type.id, own, (name, node.lineno))
            if isinstance(node, ast.Raise):
                self.assertIn(node.exc.func.id, own, (name, node.lineno))


class NamesTest(unittest.TestCase):
    def test_bound_names(self):
        for name, node in all_nodes():
            bound = []
            if isinstance(node, ast.Name) and not isinstance(node.ctx, ast.Load):
                bound.append(node.id)
            elif isinstance(node, ast.arg):
                bound.append(node.arg)
            elif isinstance(node, (ast.FunctionDef, ast.ClassDef)) and not node.name.startswith("__"):
                bound.append(node.name)
            for word in bound:
                self.assertFalse(hasattr(builtins, word) or word in BARRED_NAMES, (name, word))
                self.assertFalse(word.startswith("__"), (name, word))

    def test_names_of_a_file_are_not_bound_again(self):
        for name, tree in parsed().items():
            imported = {alias.asname or alias.name for row in tree.body if isinstance(row, ast.ImportFrom)
                        for alias in row.names}
            classes = {row.name for row in tree.body if isinstance(row, ast.ClassDef)}
            for node in ast.walk(tree):
                if isinstance(node, ast.Name) and not isinstance(node.ctx, ast.Load):
                    self.assertNotIn(node.id, imported | classes, name)
                if isinstance(node, ast.arg):
                    self.assertNotIn(node.arg, imported | classes, name)

    def test_builtins(self):
        for name, node in all_nodes():
            if isinstance(node, ast.Name) and hasattr(builtins, node.id):
                self.assertIn(node.id, BUILTINS, (name, node.lineno))

    def test_attributes(self):
        of_builtins = set()
        for kind in (str, bytes, list, tuple, dict, set, int):
            of_builtins |= {word for word in dir(kind) if not word.startswith("__")}
        for name, node in all_nodes():
            if isinstance(node, ast.Attribute):
                self.assertNotIn(node.attr, BARRED | {"format", "args"}, (name, node.lineno))
                if node.attr in of_builtins:
                    self.assertIn(node.attr, METHODS, (name, node.lineno))

    def test_assigned_attributes(self):
        methods, attributes = set(), set()
        for name, node in all_nodes():
            if isinstance(node, ast.Attribute) and isinstance(node.ctx, ast.Store):
                self.assertNotIn(node.attr, BARRED_ATTRIBUTES, (name, node.lineno))
                attributes.add(node.attr)
            if isinstance(node, ast.FunctionDef) and node.decorator_list:
                self.assertEqual(["property"], [decorator.id for decorator in node.decorator_list], (name, node.name))
                methods.add(node.name)
        self.assertFalse(methods & attributes)


class ValuesTest(unittest.TestCase):
    def test_expressions(self):
        barred = (ast.Div, ast.MatMult, ast.Await, ast.Yield, ast.YieldFrom, ast.SetComp, ast.Set, ast.Starred)
        for name, node in all_nodes():
            self.assertNotIsInstance(node, barred, (name, getattr(node, "lineno", None)))
            if isinstance(node, ast.Constant):
                self.assertNotIsInstance(node.value, (float, complex, bytes), name)
            if isinstance(node, ast.BinOp) and isinstance(node.op, ast.Pow):
                self.assertIsInstance(node.right, ast.Constant, name)
                self.assertIn(node.right.value, range(65), name)

    def test_strings(self):
        for name, node in all_nodes():
            if isinstance(node, ast.Constant) and isinstance(node.value, str):
                self.assertNotIn("%", node.value, (name, node.lineno))
                self.assertFalse(node.value.endswith(("._", ".__")), (name, node.lineno))

    def test_no_annotations(self):
        for name, node in all_nodes():
            self.assertNotIsInstance(node, ast.AnnAssign, name)
            self.assertIsNone(getattr(node, "annotation", None), name)
            self.assertIsNone(getattr(node, "returns", None), name)


if __name__ == "__main__":
    unittest.main()
