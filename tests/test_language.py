"""The rules of the language that can be seen by a look at the package's files."""

import ast
import builtins
import pathlib
import re
import unittest

PACKAGE = pathlib.Path(__file__).resolve().parent.parent / "percentlinks"
FILES = sorted(PACKAGE.glob("*.py"))
STATEMENTS = (ast.Module, ast.FunctionDef, ast.ClassDef, ast.ImportFrom, ast.Assign, ast.AugAssign, ast.If, ast.While,
              ast.For, ast.Return, ast.Break, ast.Continue, ast.Pass, ast.Raise, ast.Try, ast.ExceptHandler, ast.Expr)
EXPRESSIONS = (ast.Constant, ast.Name, ast.Attribute, ast.Subscript, ast.Slice, ast.Call, ast.BinOp, ast.UnaryOp,
               ast.BoolOp, ast.Compare, ast.IfExp, ast.List, ast.Tuple, ast.Dict, ast.ListComp)
SMALL = (ast.arguments, ast.arg, ast.alias, ast.expr_context, ast.operator, ast.unaryop, ast.boolop, ast.cmpop,
         ast.comprehension)
OWN_NAMES = """len range enumerate zip min max sum abs sorted reversed int str bool list tuple dict set frozenset
isinstance ord repr any all divmod Exception ValueError KeyError IndexError""".split()
METHODS = """append clear copy count endswith extend find get index insert isalnum isalpha isdigit islower isspace
isupper items join keys ljust lower lstrip partition pop remove replace reverse rfind rjust rpartition rsplit rstrip
setdefault split splitlines startswith strip update upper values zfill bit_length __init__""".split()
WORDS = """type typing typing_extensions enum Enum IntEnum StrEnum Flag IntFlag Generic Protocol ABC ABCMeta
namedtuple NamedTuple TypedDict TYPE_CHECKING abstractmethod""".split()
NOWHERE = """register mro elements open input version_info with_traceback add_note f_back tb_next co_names format
format_map""".split()
NOT_AS_NAMES = """attrgetter breakpoint builtins compile copyright credits delattr dir eval exec exit gc getattr globals
hasattr help id importlib license locals methodcaller os quit setattr super type vars sys chr print""".split()
WALKED = ("zip", "enumerate", "reversed", "range", "items", "keys", "values")
WALKERS = ("list", "tuple", "dict", "sorted", "sum", "any", "all", "enumerate", "zip", "min", "max")


def called_name(node):
    """What a call calls by name, as a function or a method; otherwise None."""
    if not isinstance(node, ast.Call):
        return None
    return node.func.attr if isinstance(node.func, ast.Attribute) else getattr(node.func, "id", None)


def nodes_of(file):
    return list(ast.walk(ast.parse(file.read_text("ascii"))))


class Language(unittest.TestCase):
    def test_only_plain_files_lie_in_the_package(self):
        names = [path.name for path in PACKAGE.iterdir() if path.name != "__pycache__"]
        self.assertIn("__init__.py", names)
        for name in names:
            self.assertRegex(name, r"\A(__init__|[a-z][a-z0-9_]*)\.py\Z")

    def test_size_and_signs(self):
        for file in FILES:
            text = file.read_bytes().decode("ascii")
            self.assertRegex(text, r"\A[ -~\n]*\Z", file)
            self.assertLessEqual(len(text.splitlines()), 400, file)
            self.assertLessEqual(max(len(line) for line in text.splitlines()), 120, file)
            self.assertEqual([word for word in re.findall(r"\w+", text) if word in WORDS], [], file)
            for node in nodes_of(file):
                if isinstance(node, ast.FunctionDef):
                    self.assertLessEqual(node.end_lineno - node.lineno + 1, 40, node.name)

    def test_statements_and_expressions(self):
        for file in FILES:
            for node in nodes_of(file):
                self.assertIsInstance(node, STATEMENTS + EXPRESSIONS + SMALL, file)
                if isinstance(node, (ast.While, ast.For)):
                    self.assertEqual(node.orelse, [], file)
                if isinstance(node, ast.Assign):
                    self.assertEqual(len(node.targets), 1, file)
                    self.assertNotIsInstance(node.targets[0], ast.Tuple, file)
                if isinstance(node, ast.ListComp):
                    self.assertEqual(len(node.generators), 1, file)
                    self.assertLessEqual(len(node.generators[0].ifs), 1, file)
                if isinstance(node, (ast.FunctionDef, ast.ClassDef)):
                    self.assertEqual(node.decorator_list, [], file)
                if isinstance(node, ast.BinOp):
                    self.assertNotIsInstance(node.op, (ast.Div, ast.MatMult), file)
                if isinstance(node, ast.Constant):
                    self.assertIn(type(node.value), (int, str, bool, type(None)), file)
                    self.assertNotIn("%", str(node.value), file)

    def test_imports(self):
        for file in FILES:
            for node in nodes_of(file):
                if isinstance(node, ast.ImportFrom):
                    self.assertRegex(node.module, r"\Apercentlinks\.[a-z]+\Z", file)
                    self.assertEqual(node.level, 0, file)
                    self.assertEqual([alias.name for alias in node.names if alias.asname or alias.name == "*"], [])
                    home = ast.parse((PACKAGE / (node.module.split(".")[1] + ".py")).read_text("ascii"))
                    self.assertLessEqual({alias.name for alias in node.names}, set(self.bound_at_top(home)), file)

    def bound_at_top(self, module):
        bound = []
        for node in module.body:
            if isinstance(node, ast.Assign):
                bound.append(node.targets[0].id)
            elif isinstance(node, (ast.FunctionDef, ast.ClassDef)):
                bound.append(node.name)
        return bound

    def test_each_name_is_bound_once_and_is_not_pythons_own(self):
        for file in FILES:
            nodes = nodes_of(file)
            top = self.bound_at_top(nodes[0])
            drawn = [alias.name for node in nodes if isinstance(node, ast.ImportFrom) for alias in node.names]
            self.assertEqual(len(top + drawn), len(set(top + drawn)), file)
            kept = {node.arg for node in nodes if isinstance(node, ast.arg)}
            for node in nodes:
                if isinstance(node, ast.Name) and isinstance(node.ctx, ast.Store) and node.id not in top:
                    kept.add(node.id)
            self.assertEqual(kept & set(top + drawn), set(), file)
            self.assertEqual((kept | set(top)) & set(dir(builtins)), set(), file)
            known = kept | set(top + drawn + OWN_NAMES)
            self.assertEqual({node.id for node in nodes if isinstance(node, ast.Name)} - known, set(), file)
            self.assertEqual([name for name in known if name.startswith("_")], [], file)

    def test_the_top_holds_plain_values(self):
        for file in FILES:
            module = nodes_of(file)[0]
            functions = [node.name for node in module.body if isinstance(node, ast.FunctionDef)]
            for node in module.body:
                if isinstance(node, ast.Assign):
                    for inner in ast.walk(node.value):
                        if isinstance(inner, ast.Name):
                            self.assertIn(inner.id, functions, file)
                        else:
                            self.assertIsInstance(inner, (ast.Constant, ast.Dict, ast.Tuple, ast.List, ast.UnaryOp,
                                                          ast.USub, ast.expr_context), file)

    def test_methods_and_values_of_objects(self):
        for file in FILES:
            nodes = nodes_of(file)
            called = [node.func.attr for node in nodes if isinstance(node, ast.Call)
                      and isinstance(node.func, ast.Attribute)]
            self.assertEqual([name for name in called if name not in METHODS], [], file)
            stored = {node.attr for node in nodes if isinstance(node, ast.Attribute)
                      and isinstance(node.ctx, ast.Store)}
            own = set(dir("") + dir(0) + dir([]) + dir({}) + dir(set()) + dir(b""))
            self.assertEqual(stored & own, set(), file)

    def test_names_that_are_not_used(self):
        for file in FILES:
            self.assertNotIn(file.stem, dir(builtins))
            for node in nodes_of(file):
                if isinstance(node, ast.Name):
                    self.assertNotIn(node.id, NOWHERE + NOT_AS_NAMES, file)
                if isinstance(node, ast.Attribute):
                    self.assertNotIn(node.attr, NOWHERE, file)
                if isinstance(node, (ast.FunctionDef, ast.ClassDef)):
                    self.assertNotIn(node.name, NOWHERE + NOT_AS_NAMES, file)

    def test_functions_and_classes_are_plain(self):
        for file in FILES:
            for node in nodes_of(file):
                if isinstance(node, ast.FunctionDef):
                    own = node.args
                    self.assertEqual([own.vararg, own.kwarg, own.kwonlyargs, own.posonlyargs, own.defaults, node.returns],
                                     [None, None, [], [], [], None], node.name)
                if isinstance(node, ast.arg):
                    self.assertIsNone(node.annotation, file)
                if isinstance(node, ast.ClassDef):
                    self.assertEqual(node.bases, [], node.name)
                    methods = [inner.name for inner in node.body if isinstance(inner, ast.FunctionDef)]
                    self.assertEqual(methods, ["__init__"], node.name)

    def test_is_stands_beside_none_true_and_false_alone(self):
        for file in FILES:
            for node in nodes_of(file):
                if isinstance(node, ast.Compare) and isinstance(node.ops[0], (ast.Is, ast.IsNot)):
                    self.assertIn(getattr(node.comparators[0], "value", 0), (None, True, False), file)

    def test_what_is_walked_is_walked_on_the_spot(self):
        for file in FILES:
            nodes = nodes_of(file)
            walked = [node.iter for node in nodes if isinstance(node, (ast.For, ast.comprehension))]
            walked += [node.args[0] for node in nodes if called_name(node) in WALKERS and node.args]
            for node in nodes:
                if called_name(node) in WALKED:
                    self.assertIn(node, walked, file)

    def test_lists_and_dicts_of_the_top_are_only_read(self):
        for file in FILES:
            nodes = nodes_of(file)
            kept = [node.targets[0].id for node in nodes[0].body if isinstance(node, ast.Assign)
                    and isinstance(node.value, (ast.List, ast.Dict))]
            read = []
            for node in nodes:
                if isinstance(node, ast.Subscript) and isinstance(node.ctx, ast.Load):
                    read.append(node.value)
                if isinstance(node, ast.Compare) and isinstance(node.ops[0], (ast.In, ast.NotIn)):
                    read.append(node.comparators[0])
                if isinstance(node, ast.Attribute) and node.attr == "get":
                    read.append(node.value)
            for node in nodes:
                if isinstance(node, ast.Name) and node.id in kept and isinstance(node.ctx, ast.Load):
                    self.assertIn(node, read, file)

    def test_no_power_and_no_set(self):
        for file in FILES:
            for node in nodes_of(file):
                self.assertNotIsInstance(node, (ast.Pow, ast.Set), file)
                self.assertNotIn(called_name(node), ("set", "frozenset"), file)

    def test_no_two_files_draw_from_one_another(self):
        drawn = {file.stem: {node.module.split(".")[1] for node in nodes_of(file) if isinstance(node, ast.ImportFrom)}
                 for file in FILES}
        while drawn:
            free = [name for name in drawn if not drawn[name] & set(drawn)]
            self.assertNotEqual(free, [], drawn)
            for name in free:
                drawn.pop(name)
