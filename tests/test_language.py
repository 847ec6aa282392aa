"""The rules of LANGUAGE.md that can be seen in the code, in the narrow form in which this package keeps to them.

The package uses less than the rules let: no generators, sets, decorators, f-strings or defaults, and no handlers but those
that catch one own error each.
"""

import ast
import builtins
import re
import unittest
import warnings
from pathlib import Path

from whysheets import errors

PACKAGE = Path(__file__).resolve().parent.parent / "whysheets"
FILES = sorted(PACKAGE.glob("*.py"))

STATEMENTS = (ast.FunctionDef, ast.ClassDef, ast.Return, ast.Assign, ast.AugAssign, ast.For, ast.While, ast.If,
              ast.Raise, ast.ImportFrom, ast.Expr, ast.Pass, ast.Break, ast.Continue, ast.Try, ast.ExceptHandler)
EXPRESSIONS = (ast.BoolOp, ast.BinOp, ast.UnaryOp, ast.Lambda, ast.IfExp, ast.Dict, ast.ListComp, ast.DictComp,
               ast.Compare, ast.Call, ast.Constant, ast.Attribute, ast.Subscript, ast.Name, ast.List, ast.Tuple,
               ast.Slice)
SIGNS = (ast.Add, ast.Sub, ast.Mult, ast.FloorDiv, ast.Mod, ast.BitAnd, ast.BitOr, ast.LShift, ast.RShift, ast.Invert, ast.USub, ast.Not, ast.And, ast.Or, ast.Eq, ast.NotEq,
         ast.Lt, ast.LtE, ast.Gt, ast.GtE, ast.Is, ast.IsNot, ast.In, ast.NotIn)
OTHERS = (ast.Module, ast.arguments, ast.arg, ast.alias, ast.comprehension, ast.keyword, ast.Load, ast.Store)

BUILTINS = {"len", "range", "enumerate", "zip", "min", "max", "sum", "abs", "sorted", "reversed", "int", "str", "bool",
            "list", "tuple", "dict", "isinstance", "any", "all", "super", "ValueError"}
METHODS = {"append", "bit_length", "count", "endswith", "extend", "get", "index", "insert", "isupper", "items", "join", "keys",
           "partition", "pop", "remove", "rfind", "setdefault", "split", "startswith", "update", "values"}
# What may be imported from the library; it is only called.
LIBRARY = {"math": ("factorial", "gcd")}
UNUSED = {"register", "mro", "elements", "open", "input", "law", "version_info", "with_traceback", "add_note",
          "attrgetter", "breakpoint", "builtins", "compile", "copyright", "credits", "delattr", "dir", "eval", "exec",
          "exit", "gc", "getattr", "globals", "hasattr", "help", "id", "importlib", "license", "locals",
          "methodcaller", "os", "quit", "setattr", "type", "vars", "sys"}
BARRED = ("type typing typing_extensions enum Enum IntEnum StrEnum Flag IntFlag Generic Protocol ABC ABCMeta namedtuple "
          "NamedTuple TypedDict TYPE_CHECKING abstractmethod").split()
# What is iterated on the spot, and where that may stand.
AT_ONCE = {"zip", "enumerate", "reversed", "range"}
VIEWS = {"items", "keys", "values"}
TAKERS = {"list", "tuple", "dict", "sorted", "sum", "any", "all", "enumerate", "zip"}
CHANGING = {"append", "extend", "insert", "pop", "remove", "setdefault", "update", "clear", "reverse", "sort"}


def tree_of(file):
    return ast.parse(file.read_text())


def functions_in(tree):
    return [node for node in ast.walk(tree) if isinstance(node, ast.FunctionDef)]


def bound_names(node):
    """The names that a function, a lambda or a comprehension binds."""
    found = []
    for one in ast.walk(node):
        if isinstance(one, ast.Name) and isinstance(one.ctx, ast.Store):
            found.append(one.id)
        if isinstance(one, ast.arg):
            found.append(one.arg)
    return found


def docstrings_of(tree):
    found = []
    for node in ast.walk(tree):
        if isinstance(node, (ast.Module, ast.ClassDef, ast.FunctionDef)) and ast.get_docstring(node) is not None:
            found.append(node.body[0].value)
    return found


def parents_of(tree):
    return {child: node for node in ast.walk(tree) for child in ast.iter_child_nodes(node)}


class LanguageTest(unittest.TestCase):
    def each(self):
        return [(file, tree_of(file)) for file in FILES]

    def test_files(self):
        self.assertLessEqual(len(FILES), 100)
        for thing in PACKAGE.iterdir():
            self.assertTrue(thing.suffix == ".py" or thing.name == "__pycache__", thing)
        for file in FILES:
            self.assertRegex(file.name, r"^([a-z][a-z0-9_]*|__init__)\.py$")
            self.assertNotIn(file.stem, dir(builtins))
            text = file.read_text()
            self.assertTrue(all(sign == "\n" or " " <= sign <= "~" for sign in text))
            lines = text.split("\n")
            self.assertLessEqual(len(lines), 399)
            self.assertLessEqual(max(map(len, lines)), 120)
            for word in BARRED:
                self.assertIsNone(re.search(rf"\b{word}\b", text), word)
            self.assertIsNone(re.search("_wall|dataclass|overload|contextmanager", text))
            with warnings.catch_warnings():
                warnings.simplefilter("error")
                compile(text, file.name, "exec")

    def test_sizes_of_functions(self):
        for _, tree in self.each():
            for node in functions_in(tree):
                self.assertLessEqual(node.end_lineno - node.lineno + 1, 40, node.name)

    def test_module_level(self):
        for _, tree in self.each():
            body = tree.body[1:] if ast.get_docstring(tree) is not None else tree.body
            kinds = [type(node) for node in body]
            self.assertTrue(set(kinds) <= {ast.ImportFrom, ast.FunctionDef, ast.ClassDef, ast.Assign})
            # Imports stand at the top.
            self.assertEqual(kinds, sorted(kinds, key=lambda kind: kind is not ast.ImportFrom))
            names = []
            for node in body:
                if isinstance(node, ast.ImportFrom):
                    names.extend([alias.name for alias in node.names])
                    self.assertEqual(node.level, 0)
                    library = LIBRARY.get(node.module, ())
                    self.assertTrue(node.module.startswith("whysheets.") or names[-1] in library)
                    self.assertTrue(all(alias.asname is None for alias in node.names))
                elif isinstance(node, ast.Assign):
                    self.assertEqual([type(target) for target in node.targets], [ast.Name])
                    names.append(node.targets[0].id)
                    self.plain(node.value)
                else:
                    names.append(node.name)
            self.assertEqual(len(set(names)), len(names))

    def plain(self, value):
        """A plain value: no list or dict within another one."""
        for node in ast.walk(value):
            self.assertIsInstance(node, (ast.Constant, ast.Tuple, ast.Dict, ast.Name, ast.Load, ast.UnaryOp, ast.USub))
            if node is not value:
                self.assertNotIsInstance(node, (ast.List, ast.Dict))

    def test_words_of_the_language(self):
        for _, tree in self.each():
            for node in ast.walk(tree):
                self.assertIsInstance(node, STATEMENTS + EXPRESSIONS + SIGNS + OTHERS, ast.dump(node)[:200])
                if isinstance(node, ast.FunctionDef):
                    self.assertEqual(node.decorator_list, [])
                    told = node.args
                    self.assertFalse(told.defaults or told.kwonlyargs or told.vararg or told.kwarg or told.posonlyargs)
                    self.assertIsNone(node.returns)
                if isinstance(node, ast.Constant):
                    self.assertTrue(node.value is None or isinstance(node.value, (bool, int, str)))
                if isinstance(node, ast.Try):
                    self.assertEqual((node.orelse, node.finalbody), ([], []))
                if isinstance(node, ast.ExceptHandler):
                    self.assertIsNone(node.name)
                    self.assertIsInstance(node.type, ast.Name)
                    self.assertTrue(issubclass(getattr(errors, node.type.id), errors.SheetError))
                if isinstance(node, (ast.For, ast.While)):
                    self.assertEqual(node.orelse, [])
                if isinstance(node, ast.Raise):
                    self.assertTrue(isinstance(node.exc, ast.Call) and isinstance(node.exc.func, ast.Name))
                if isinstance(node, ast.Compare):
                    for sign, other in zip(node.ops, node.comparators):
                        if isinstance(sign, (ast.Is, ast.IsNot)):
                            self.assertTrue(isinstance(other, ast.Constant) and other.value in (None, True, False))

    def test_each_import_names_the_file_that_defines_it(self):
        own = {}
        for file, tree in self.each():
            own[file.stem] = {node.targets[0].id if isinstance(node, ast.Assign) else node.name
                              for node in tree.body if isinstance(node, (ast.Assign, ast.FunctionDef, ast.ClassDef))}
        steps = {}
        for file, tree in self.each():
            steps[file.stem] = set()
            text = file.read_text()
            for node in ast.walk(tree):
                if isinstance(node, ast.ImportFrom) and node.module not in LIBRARY:
                    module = node.module.split(".")[1]
                    steps[file.stem].add(module)
                    for alias in node.names:
                        self.assertIn(alias.name, own[module])
                        used = len(re.findall(rf"\b{alias.name}\b", text))
                        self.assertGreater(used, 1, f"{alias.name} is imported and not used")
        while steps:
            idle = [name for name in steps if not steps[name] & set(steps)]
            self.assertTrue(idle, "files import from each other")
            for name in idle:
                del steps[name]

    def test_names(self):
        for _, tree in self.each():
            barred = {alias.name for node in ast.walk(tree) if isinstance(node, ast.ImportFrom) for alias in node.names}
            barred |= {node.name for node in tree.body if isinstance(node, ast.ClassDef)}
            for node in functions_in(tree):
                for name in bound_names(node):
                    self.assertNotIn(name, barred)
            names = bound_names(tree) + [node.name for node in ast.walk(tree) if isinstance(node, (ast.FunctionDef, ast.ClassDef))]
            attributes = [node.attr for node in ast.walk(tree) if isinstance(node, ast.Attribute)]
            for name in names:
                self.assertNotIn(name, dir(builtins))
                self.assertNotIn(name, UNUSED)
                self.assertRegex(name, "^(_|__init__|[A-Za-z][A-Za-z0-9_]*)$")
            for name in attributes:
                self.assertNotIn(name, ("register", "mro", "elements", "open", "input", "law", "format", "args"))
                self.assertFalse(name.startswith("__"))
            # What is bound to _ is never read.
            self.assertFalse([node for node in ast.walk(tree)
                              if isinstance(node, ast.Name) and node.id == "_" and isinstance(node.ctx, ast.Load)])

    def test_methods_and_attributes(self):
        methods = set()
        assigned = set()
        for _, tree in self.each():
            for node in ast.walk(tree):
                if isinstance(node, ast.ClassDef):
                    own = [one.name for one in node.body if isinstance(one, ast.FunctionDef)]
                    self.assertEqual(len(set(own)), len(own))
                    held = {one.attr for one in ast.walk(node) if isinstance(one, ast.Attribute) and isinstance(one.ctx, ast.Store)}
                    self.assertFalse(held & set(own))
                    methods |= set(own)
                    assigned |= held
        builtin = {name for kind in (str, int, list, dict, set, bytes) for name in dir(kind)}
        self.assertFalse((methods - {"__init__"}) & builtin)
        self.assertFalse(assigned & (builtin - {"count", "index", "title", "find", "get"}))
        for _, tree in self.each():
            calls = [node.func for node in ast.walk(tree) if isinstance(node, ast.Call)]
            for node in ast.walk(tree):
                if isinstance(node, ast.Attribute):
                    known = METHODS | methods if node in calls else assigned
                    self.assertIn(node.attr, known)

    def test_calls(self):
        for _, tree in self.each():
            names = set(bound_names(tree)) | {node.name for node in ast.walk(tree) if isinstance(node, (ast.FunctionDef, ast.ClassDef))}
            names |= {alias.name for node in ast.walk(tree) if isinstance(node, ast.ImportFrom) for alias in node.names}
            for node in ast.walk(tree):
                if isinstance(node, ast.Name) and node.id not in names:
                    self.assertIn(node.id, BUILTINS)
                if isinstance(node, ast.Call):
                    self.assertIsInstance(node.func, (ast.Name, ast.Attribute))
                    for keyword in node.keywords:
                        self.assertEqual(keyword.arg, "key")
                        self.assertIn(node.func.id, ("sorted", "min", "max"))

    def test_iterated_at_once(self):
        for _, tree in self.each():
            parents = parents_of(tree)
            for node in ast.walk(tree):
                if not isinstance(node, ast.Call):
                    continue
                is_view = isinstance(node.func, ast.Attribute) and node.func.attr in VIEWS
                if not is_view and not (isinstance(node.func, ast.Name) and node.func.id in AT_ONCE):
                    continue
                parent = parents[node]
                if isinstance(parent, (ast.For, ast.comprehension)):
                    self.assertIs(parent.iter, node)
                else:
                    self.assertTrue(isinstance(parent, ast.Call) and parent.func.id in TAKERS and parent.args[0] is node)

    def test_loops_do_not_change_what_they_go_over(self):
        for _, tree in self.each():
            for node in ast.walk(tree):
                if not isinstance(node, ast.For):
                    continue
                over = {one.id for one in ast.walk(node.iter) if isinstance(one, ast.Name)}
                over |= {ast.unparse(one) for one in ast.walk(node.iter) if isinstance(one, ast.Attribute)}
                for one in [inner for row in node.body for inner in ast.walk(row)]:
                    if isinstance(one, ast.Call) and isinstance(one.func, ast.Attribute) and one.func.attr in CHANGING:
                        self.assertNotIn(ast.unparse(one.func.value), over)
                    if isinstance(one, ast.Subscript) and isinstance(one.ctx, ast.Store):
                        self.assertNotIn(ast.unparse(one.value), over)

    def test_tables_are_only_read(self):
        tables = set()
        for _, tree in self.each():
            tables |= {node.targets[0].id for node in tree.body if isinstance(node, ast.Assign) and isinstance(node.value, (ast.Dict, ast.List))}
        for _, tree in self.each():
            parents = parents_of(tree)
            for node in ast.walk(tree):
                if isinstance(node, ast.Name) and node.id in tables and isinstance(node.ctx, ast.Load):
                    parent = parents[node]
                    if isinstance(parent, ast.Subscript):
                        self.assertIsInstance(parent.ctx, ast.Load)
                    elif isinstance(parent, ast.Attribute):
                        self.assertEqual(parent.attr, "get")
                    else:
                        self.assertIsInstance(parent, ast.Compare)
                        self.assertIn(node, parent.comparators)

    def test_strings(self):
        for _, tree in self.each():
            told = docstrings_of(tree)
            for node in ast.walk(tree):
                if isinstance(node, ast.Constant) and isinstance(node.value, str):
                    self.assertNotIn("%", node.value)
                    self.assertNotIn("__", node.value)
                    self.assertFalse(node.value.endswith("._"))
                    if node in told:
                        self.assertNotIn("\\", node.value)

    def test_lambdas_stand_apart(self):
        for _, tree in self.each():
            lines = [node.lineno for node in ast.walk(tree) if isinstance(node, ast.Lambda)]
            self.assertEqual(len(set(lines)), len(lines))

    def test_all_is_told(self):
        """Each file, class and function but __init__ has a docstring, and no local variable is idle."""
        for file, tree in self.each():
            if file.name != "__init__.py":
                self.assertIsNotNone(ast.get_docstring(tree))
            for node in ast.walk(tree):
                if isinstance(node, (ast.ClassDef, ast.FunctionDef)) and node.name != "__init__":
                    if not (isinstance(node, ast.FunctionDef) and node.name == "decide"):
                        self.assertIsNotNone(ast.get_docstring(node), node.name)
                if isinstance(node, ast.FunctionDef):
                    read = {one.id for one in ast.walk(node) if isinstance(one, ast.Name) and isinstance(one.ctx, ast.Load)}
                    stored = {one.id for one in ast.walk(node) if isinstance(one, ast.Name) and isinstance(one.ctx, ast.Store)}
                    self.assertFalse(stored - read - {"_"}, f"{file.name} {node.name}")


if __name__ == "__main__":
    unittest.main()
