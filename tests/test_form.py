"""The form of the package: the rules of LANGUAGE.md, as far as the package needs them.

What is let here is narrower than what the rules let. Code that needs more of
them first needs a further line here.
"""

import ast
import builtins
import keyword
import re
from io import StringIO
from pathlib import Path
from tokenize import COMMENT, STRING, generate_tokens
from unittest import TestCase

PACKAGE = Path(__file__).resolve().parent.parent / "foldedways"
# Running examples leaves a further name, _, among the builtins.
BUILTIN_NAMES = set(dir(builtins)) - {"_"}
FILES = {path.stem: path.read_text(encoding="utf-8") for path in sorted(PACKAGE.glob("*.py"))}
TREES = {name: ast.parse(text) for name, text in FILES.items()}
ABOVE = {below: node for tree in TREES.values() for node in ast.walk(tree) for below in ast.iter_child_nodes(node)}

NODES = set("""
    Module ImportFrom alias FunctionDef ClassDef arguments arg Return If While For Break Continue Pass Raise
    Assign AugAssign Expr Name Load Store Constant Tuple List Dict ListComp SetComp DictComp comprehension
    Call keyword Attribute Subscript Slice Compare Eq NotEq Lt LtE Gt GtE In NotIn Is IsNot
    BoolOp And Or UnaryOp Not USub BinOp Add Sub Mult FloorDiv Mod IfExp
""".split())
BUILTINS = set("""
    len range enumerate zip min max sum abs sorted reversed int str bool list tuple dict isinstance any all
    ValueError
""".split())
METHODS = set("append count extend get index items join keys pop setdefault swapcase values".split())
MODIFYING = set("append extend pop setdefault".split())
CLASSES = {
    "errors": "WaysError BadValue TooLarge NotPossible TextError".split(), "linking": ["Linking"],
    "workspace": ["Workspace"], "spelling": ["Speller"],
}
LAZY = {"range", "enumerate", "zip", "reversed", "items", "keys", "values"}
TAKES_LAZY = {"list", "tuple", "dict", "sorted", "sum", "any", "all", "enumerate", "zip", "min", "max"}
BARRED_NAMES = set("""
    register mro elements open input law version_info with_traceback add_note attrgetter breakpoint builtins
    compile copyright credits delattr dir eval exec exit gc getattr globals hasattr help id importlib license
    locals methodcaller os quit setattr super type vars sys iter next map property staticmethod classmethod args
    format format_map
""".split())
BARRED_WORDS = re.compile(
    r"\b(type|typing|typing_extensions|enum|Enum|IntEnum|StrEnum|Flag|IntFlag|Generic|Protocol|ABC|ABCMeta"
    r"|namedtuple|NamedTuple|TypedDict|TYPE_CHECKING|abstractmethod)\b|dataclass|overload|contextmanager")
BARRED_ANYWHERE = re.compile(r"_wall|_WallAttr")


def nodes_of(name, *kinds):
    """Return the nodes of these kinds in a file."""
    return [node for node in ast.walk(TREES[name]) if isinstance(node, kinds)]


def each(*kinds):
    """Return the nodes of these kinds in all files, each behind the name of its file."""
    return [(name, node) for name in TREES for node in nodes_of(name, *kinds)]


def called_name(node):
    """Return the name of what is called, or None if this is no call."""
    if not isinstance(node, ast.Call):
        return None
    return node.func.id if isinstance(node.func, ast.Name) else node.func.attr


def targets_of(statement):
    """Return the names that are assigned by a statement, a loop or a comprehension."""
    return [node.id for node in ast.walk(statement) if isinstance(node, ast.Name) and isinstance(node.ctx, ast.Store)]


def local_names(function):
    """Return the names of the parameters and the local variables."""
    return [parameter.arg for parameter in function.args.args] + targets_of(function)


def bound_at_top(name):
    """Return the names that a file binds at module level, each as often as it is bound."""
    bound = []
    for statement in TREES[name].body:
        if isinstance(statement, ast.ImportFrom):
            bound += [alias.name for alias in statement.names]
        elif isinstance(statement, (ast.FunctionDef, ast.ClassDef)):
            bound.append(statement.name)
        else:
            bound += targets_of(statement)
    return bound


def methods_of(node):
    """Return the methods of a class."""
    return [below for below in node.body if isinstance(below, ast.FunctionDef)]


def attributes_assigned(function):
    """Return the attributes that a method assigns to its own object."""
    return [below.attr for below in ast.walk(function) if isinstance(below, ast.Attribute)
            and isinstance(below.ctx, ast.Store) and ast.unparse(below.value) == "self"]


def is_docstring(node):
    """Tell if a statement is a string alone."""
    return isinstance(node, ast.Expr) and isinstance(node.value, ast.Constant) and isinstance(node.value.value, str)


class Form(TestCase):
    def at(self, name, node):
        """Return a subtest for a node of a file."""
        return self.subTest(file=name, line=getattr(node, "lineno", 0))

    def test_l1_and_l14_files(self):
        names = [path.name for path in PACKAGE.iterdir() if path.name != "__pycache__"]
        self.assertIn("__init__.py", names)
        for name in names:
            self.assertRegex(name, r"\A(__init__|[a-z][a-z0-9_]*)\.py\Z")
            self.assertNotIn(name[:-3], BARRED_NAMES | BUILTIN_NAMES | {"test", "tests", "testing", "site"})
        self.assertLessEqual(len(names), 100)

    def test_l10_and_l14_sizes_and_characters(self):
        for name, text in FILES.items():
            with self.subTest(file=name):
                self.assertRegex(text, r"\A[ -~\n]*\Z")
                self.assertLessEqual(text.count("\n"), 399)
                self.assertLessEqual(max(len(line) for line in text.split("\n")), 120)
        for name, node in each(ast.FunctionDef):
            with self.at(name, node):
                self.assertLessEqual(node.end_lineno - node.lineno + 1, 40)

    def test_l4_to_l7_and_l27_statements_and_expressions(self):
        for name, node in each(ast.AST):
            with self.at(name, node):
                self.assertIn(node.__class__.__name__, NODES)

    def test_l2_and_l16_imports(self):
        for name, node in each(ast.ImportFrom):
            with self.at(name, node):
                self.assertEqual(node.level, 0)
                self.assertRegex(node.module, r"\Afoldedways\.[a-z]+\Z")
                file = node.module.split(".")[1]
                for alias in node.names:
                    self.assertIsNone(alias.asname)
                    imported = [told.name for told in nodes_of(file, ast.alias)]
                    self.assertIn(alias.name, bound_at_top(file))
                    self.assertNotIn(alias.name, imported)
                    self.assertIn(alias.name, [node.id for node in nodes_of(name, ast.Name)])

    def test_l16_no_two_files_import_from_each_other(self):
        needs = {name: {node.module.split(".")[1] for node in nodes_of(name, ast.ImportFrom)} for name in TREES}
        while needs:
            free = [name for name in needs if not needs[name] & set(needs)]
            self.assertTrue(free, f"these import from each other: {sorted(needs)}")
            needs = {name: needs[name] for name in needs if name not in free}

    def test_l3_module_level(self):
        for name, tree in TREES.items():
            self.assertTrue(is_docstring(tree.body[0]))
            allowed = (ast.ImportFrom, ast.FunctionDef, ast.ClassDef, ast.Assign)
            for statement in tree.body[1:]:
                with self.subTest(file=name, line=statement.lineno):
                    self.assertIsInstance(statement, allowed)
                    if isinstance(statement, ast.Assign):
                        self.assertEqual([target.__class__ for target in statement.targets], [ast.Name])
                        value = ast.literal_eval(statement.value)
                        self.assertIsInstance(value, (int, str, tuple, dict))
                        parts = [*value, *value.values()] if isinstance(value, dict) else [value]
                        self.assertLessEqual({part.__class__ for part in parts}, {int, str, tuple})
        self.assertEqual(len(TREES["__init__"].body), 1)

    def test_l15_dicts_at_module_level_are_only_read(self):
        for name, tree in TREES.items():
            dicts = [statement.targets[0].id for statement in tree.body
                     if isinstance(statement, ast.Assign) and isinstance(statement.value, ast.Dict)]
            for node in nodes_of(name, ast.Name):
                if node.id in dicts and isinstance(node.ctx, ast.Load):
                    with self.at(name, node):
                        above = ABOVE[node]
                        in_loop = isinstance(above, (ast.For, ast.comprehension)) and node is above.iter
                        item = isinstance(above, ast.Subscript) and node is above.value
                        got = isinstance(above, ast.Attribute) and above.attr == "get"
                        self.assertTrue(in_loop or got or item and isinstance(above.ctx, ast.Load))
            for node in nodes_of(name, ast.ImportFrom):
                for alias in node.names:
                    told = [statement for statement in TREES[node.module.split(".")[1]].body
                            if isinstance(statement, ast.Assign) and statement.targets[0].id == alias.name]
                    self.assertFalse([statement for statement in told if isinstance(statement.value, ast.Dict)])

    def test_l4_functions(self):
        for name, node in each(ast.FunctionDef):
            with self.at(name, node):
                told = node.args
                self.assertFalse(told.defaults or told.kwonlyargs or told.posonlyargs or told.vararg or told.kwarg)
                self.assertFalse(node.decorator_list)
                self.assertTrue(is_docstring(node.body[0]) or node.name == "__init__")
                self.assertIsNone(node.returns)
                self.assertEqual([below for below in ast.walk(node) if isinstance(below, ast.FunctionDef)], [node])

    def test_l5_l18_and_l19_classes(self):
        for name in TREES:
            self.assertEqual([node.name for node in nodes_of(name, ast.ClassDef)], CLASSES.get(name, []))
        for name, node in each(ast.ClassDef):
            with self.at(name, node):
                self.assertFalse(node.decorator_list or node.keywords)
                self.assertTrue(is_docstring(node.body[0]))
                methods = methods_of(node)
                self.assertEqual(methods, node.body[1:])
                if name == "errors":
                    self.assertIn([base.id for base in node.bases], (["ValueError"], ["WaysError"]))
                    self.assertIn([below.name for below in methods], ([], ["__init__"]))
                else:
                    self.assertFalse(node.bases)
                    self.check_methods(methods)
        for name, node in each(ast.Raise):
            with self.at(name, node):
                self.assertIsNone(node.cause)
                self.assertIn(called_name(node.exc), bound_at_top("errors"))

    def check_methods(self, methods):
        """Check the methods of a class that is no error class."""
        names = [below.name for below in methods]
        attributes = {told for below in methods for told in attributes_assigned(below)}
        self.assertEqual(names, list(dict.fromkeys(names)))
        self.assertEqual(names[0], "__init__")
        self.assertFalse(attributes & set(names))
        for told in names[1:] + sorted(attributes):
            self.assertFalse([kind for kind in (str, int, list, dict, set, tuple, bytes) if hasattr(kind, told)])
        for below in methods:
            self.assertEqual(below.args.args[0].arg, "self")
            self.assertNotIn("self", targets_of(below))
        self.assertFalse([below for below in ast.walk(methods[0]) if isinstance(below, ast.Return)])

    def test_l15_one_binding_for_each_name(self):
        for name in TREES:
            bound = bound_at_top(name)
            self.assertEqual(sorted(bound), sorted(set(bound)))
        for name, function in each(ast.FunctionDef):
            with self.at(name, function):
                self.assertFalse(set(local_names(function)) & set(bound_at_top(name)))

    def test_l8_l12_l15_and_l17_names(self):
        for name in TREES:
            bound = bound_at_top(name) + [node.attr for node in nodes_of(name, ast.Attribute)]
            bound += [told for function in nodes_of(name, ast.FunctionDef) for told in local_names(function)]
            for told in bound:
                with self.subTest(file=name, name=told):
                    self.assertRegex(told, r"\A([A-Za-z][A-Za-z0-9_]*|_)\Z")
                    self.assertNotIn(told, BUILTIN_NAMES | BARRED_NAMES)
                    self.assertFalse(keyword.issoftkeyword(told) and told != "_")

    def test_l8_names_that_are_read(self):
        for name, function in each(ast.FunctionDef):
            with self.at(name, function):
                own = set(local_names(function)) | set(bound_at_top(name))
                names = [node for node in ast.walk(function) if isinstance(node, ast.Name)]
                for read in [node.id for node in names if isinstance(node.ctx, ast.Load)]:
                    self.assertIn(read, own | BUILTINS)
                    self.assertNotEqual(read, "_")

    def test_l22_builtins_are_called(self):
        for name, node in each(ast.Name):
            with self.at(name, node):
                above = ABOVE[node]
                if node.id in BUILTINS:
                    in_isinstance = called_name(above) == "isinstance" and node is above.args[1]
                    called = isinstance(above, ast.Call) and node is above.func
                    self.assertTrue(called or in_isinstance or isinstance(above, ast.ClassDef))
        for name, node in each(ast.Call):
            with self.at(name, node):
                told = {keyword_told.arg for keyword_told in node.keywords}
                self.assertLessEqual(told, {"key", "default"} if called_name(node) in ("min", "max") else set())

    def test_l25_and_l26_methods_and_attributes(self):
        defined = [below for _, told in each(ast.ClassDef) for below in methods_of(told)]
        methods = {below.name for below in defined} - {"__init__"}
        attributes = {told for below in defined for told in attributes_assigned(below)}
        self.assertFalse(methods & attributes)
        for name, node in each(ast.Attribute):
            with self.at(name, node):
                above = ABOVE[node]
                if isinstance(above, ast.Call) and node is above.func and node.attr in METHODS:
                    continue
                self.assertIsInstance(node.value, ast.Name)
                called = isinstance(above, ast.Call) and node is above.func
                self.assertIn(node.attr, methods if called else attributes)
        for name, node in each(ast.Call):
            with self.at(name, node):
                if called_name(node) == "join":
                    self.assertIsInstance(node.func.value, ast.Constant)

    def test_l23_iterated_at_once(self):
        for name, node in each(ast.Call):
            with self.at(name, node):
                if called_name(node) not in LAZY:
                    continue
                above = ABOVE[node]
                if called_name(node) == "range" and called_name(above) == "reversed":
                    continue
                if isinstance(above, ast.Call):
                    self.assertIn(called_name(above), TAKES_LAZY)
                    self.assertIs(node, above.args[0])
                else:
                    self.assertIsInstance(above, (ast.For, ast.comprehension))
                    self.assertIs(node, above.iter)

    def test_l23_what_a_loop_goes_over_is_not_modified(self):
        for name, loop in each(ast.For):
            with self.at(name, loop):
                parts = [node for node in ast.walk(loop.iter) if isinstance(node, (ast.Name, ast.Attribute))]
                gone_over = {ast.unparse(node) for node in parts} - {"self"}
                for node in [below for statement in loop.body for below in ast.walk(statement)]:
                    if called_name(node) in MODIFYING and isinstance(node.func, ast.Attribute):
                        self.assertNotIn(ast.unparse(node.func.value), gone_over)
                    if isinstance(node, ast.Subscript) and isinstance(node.ctx, ast.Store):
                        self.assertNotIn(ast.unparse(node.value), gone_over)

    def test_l24_sets(self):
        for name, node in each(ast.SetComp):
            with self.at(name, node):
                self.assertIn(called_name(ABOVE[node]), ("sorted", "len"))

    def test_l20_is(self):
        for name, node in each(ast.Compare):
            with self.at(name, node):
                for sign, right in zip(node.ops, node.comparators):
                    if isinstance(sign, (ast.Is, ast.IsNot)):
                        self.assertIn(ast.unparse(right), ("None", "True", "False"))

    def test_l17_and_l27_strings_and_words(self):
        for name, text in FILES.items():
            self.assertIsNone(BARRED_ANYWHERE.search(text))
            lines = {node.body[0].lineno for node in nodes_of(name, ast.Module, ast.FunctionDef, ast.ClassDef)
                     if is_docstring(node.body[0])}
            for token in generate_tokens(StringIO(text).readline):
                with self.subTest(file=name, line=token.start[0]):
                    if token.exact_type == STRING:
                        self.assertNotIn("\\", token.string.replace("\\n", ""))
                        self.assertNotIn("%", token.string)
                    if token.exact_type != COMMENT and token.start[0] not in lines:
                        self.assertIsNone(BARRED_WORDS.search(token.string))
