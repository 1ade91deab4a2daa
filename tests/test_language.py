"""What the language's rules say of the files of the package, as far as the text of a file shows it."""

import ast
import builtins
import pathlib
import re
import unittest

PACKAGE = pathlib.Path(__file__).resolve().parent.parent / "turnsall"
FILES = sorted(PACKAGE.glob("*.py"))
MODULES = ("heapq", "math", "itertools")
BUILTINS = set("""len range enumerate zip min max sum abs sorted reversed int str bool bytes list tuple dict set frozenset
isinstance ord repr any all divmod Exception ValueError TypeError KeyError IndexError LookupError ZeroDivisionError
ArithmeticError OverflowError RuntimeError NotImplementedError AttributeError StopIteration NotImplemented iter next map
property staticmethod classmethod super""".split())
METHODS = set("""append clear copy count endswith extend find get index insert isalnum isalpha isdigit islower isspace
isupper items join keys ljust lower lstrip partition pop remove replace reverse rfind rjust rpartition rsplit rstrip
setdefault split splitlines startswith strip update upper values zfill bit_length add discard isascii isdecimal encode
decode hex removeprefix removesuffix""".split())
BARRED = set("register mro elements open input law version_info with_traceback add_note".split())
BARRED_NAMES = BARRED | set("""attrgetter breakpoint builtins compile copyright credits delattr dir eval exec exit gc getattr
globals hasattr help id importlib license locals methodcaller os quit setattr type vars sys""".split())
WORDS = set("""type typing typing_extensions enum Enum IntEnum StrEnum Flag IntFlag Generic Protocol ABC ABCMeta namedtuple
NamedTuple TypedDict TYPE_CHECKING abstractmethod""".split())
NODES = (
    ast.AsyncFunctionDef, ast.Await, ast.AsyncFor, ast.AsyncWith, ast.Global, ast.Match, ast.Import, ast.Starred,
    ast.GeneratorExp, ast.SetComp, ast.NamedExpr, ast.Lambda, ast.Nonlocal, ast.AnnAssign,
    ast.Yield, ast.YieldFrom, ast.Div, ast.MatMult,
)


def parents(tree):
    found = {}
    for node in ast.walk(tree):
        for child in ast.iter_child_nodes(node):
            found[child] = node
    return found


def docstrings(tree):
    found = set()
    for node in ast.walk(tree):
        if isinstance(node, (ast.Module, ast.FunctionDef, ast.ClassDef)) and ast.get_docstring(node) is not None:
            found.add(node.body[0].value)
    return found


class Language(unittest.TestCase):

    def setUp(self):
        self.texts = {path.stem: path.read_text(encoding="utf-8") for path in FILES}
        self.trees = {name: ast.parse(text) for name, text in self.texts.items()}

    def test_files(self):
        for path in PACKAGE.iterdir():
            if path.name != "__pycache__":
                self.assertRegex(path.name, r"^([a-z][a-z0-9_]*|__init__)\.py$")
                self.assertFalse(re.match(r"(law_|test|site|conftest|usercustom)", path.name))
                self.assertNotIn(path.stem, set(dir(builtins)) | WORDS)
        self.assertLessEqual(len(FILES), 100)
        for name, text in self.texts.items():
            self.assertLessEqual(len(text.splitlines()), 399, name)
            self.assertTrue(text.endswith("\n") and not text.endswith("\n\n"), name)
            for line in text.splitlines():
                self.assertLessEqual(len(line), 120, (name, line))
                self.assertRegex(line, r"^[ -~]*$")
                self.assertEqual(line, line.rstrip())
            self.assertIsNone(re.search(r"_wall|_WallAttr", text))

    def test_imports(self):
        defined = {
            name: {node.name for node in tree.body if isinstance(node, (ast.FunctionDef, ast.ClassDef))}
            | {target.id for node in tree.body if isinstance(node, ast.Assign) for target in node.targets}
            for name, tree in self.trees.items()
        }
        reached = {}
        for name, tree in self.trees.items():
            reached[name] = set()
            bound, used = [], {node.id for node in ast.walk(tree) if isinstance(node, ast.Name)}
            for node in tree.body:
                if isinstance(node, ast.ImportFrom):
                    self.assertEqual(node.level, 0)
                    if node.module == "math":
                        self.assertTrue({alias.name for alias in node.names} <= {"gcd", "lcm", "isqrt", "comb", "factorial"})
                        bound += [alias.name for alias in node.names]
                        continue
                    self.assertRegex(node.module, r"^turnsall\.\w+$")
                    module = node.module.split(".")[1]
                    reached[name].add(module)
                    for alias in node.names:
                        self.assertIsNone(alias.asname)
                        self.assertIn(alias.name, defined[module])
                        self.assertIn(alias.name, used, name)
                        bound.append(alias.name)
            bound += sorted(defined[name])
            self.assertEqual(len(bound), len(set(bound)), name)
        self.assertFalse(any(node for node in self.trees["__init__"].body[1:]))
        # No file comes back to itself.
        order = []
        while len(order) < len(reached):
            ready = [name for name in reached if name not in order and reached[name] <= set(order)]
            self.assertTrue(ready, "imports go round")
            order += ready

    def test_module_level(self):
        for name, tree in self.trees.items():
            for node in tree.body:
                self.assertIsInstance(node, (ast.Expr, ast.ImportFrom, ast.FunctionDef, ast.ClassDef, ast.Assign), name)
                if isinstance(node, ast.Assign):
                    ast.literal_eval(node.value)
                if isinstance(node, ast.ClassDef):
                    for part in node.body:
                        self.assertIsInstance(part, (ast.Expr, ast.FunctionDef))

    def test_sizes_and_names_of_functions(self):
        for name, tree in self.trees.items():
            bound = {alias.name for node in tree.body if isinstance(node, ast.ImportFrom) for alias in node.names}
            bound |= {node.name for node in tree.body if isinstance(node, (ast.FunctionDef, ast.ClassDef))}
            for node in ast.walk(tree):
                if isinstance(node, ast.FunctionDef):
                    self.assertLessEqual(node.end_lineno - node.lineno + 1, 40, (name, node.name))
                    if node.decorator_list:
                        self.assertEqual([each.id for each in node.decorator_list], ["property"])
                        self.assertEqual([arg.arg for arg in node.args.args], ["self"])
                    self.assert_name(node.name, name)
                    stored = {each.id for each in ast.walk(node) if isinstance(each, ast.Name) and isinstance(each.ctx, ast.Store)}
                    stored |= {arg.arg for arg in node.args.args}
                    self.assertFalse(stored & bound, (name, node.name))
                    for each in stored:
                        self.assert_name(each, name)
                    self.assertFalse(any(
                        isinstance(each, ast.Name) and each.id == "_" and isinstance(each.ctx, ast.Load) for each in ast.walk(node)
                    ))

    def assert_name(self, word, name):
        if not re.match(r"^__\w+__$", word):
            self.assertRegex(word, r"^(_?[A-Za-z][A-Za-z0-9_]*|_)$", name)
        self.assertNotIn(word, set(dir(builtins)) | BARRED_NAMES | {"copy_", "map", "iter", "next"}, name)
        self.assertIsNone(re.match(r"_(pe|dcw|enum|cm|twin_re|lay|law|stub)_|_sre|_(cold|outside|record|tuplegetter)\b", word))

    def test_kinds_of_nodes(self):
        own_errors = {node.name for node in self.trees["errors"].body if isinstance(node, ast.ClassDef)}
        for name, tree in self.trees.items():
            around = parents(tree)
            notes = docstrings(tree)
            for node in ast.walk(tree):
                self.assertNotIsInstance(node, NODES, (name, getattr(node, "lineno", None)))
                if isinstance(node, ast.FunctionDef):
                    self.assertIsInstance(around[node], (ast.Module, ast.ClassDef))
                    self.assertFalse(node.args.vararg or node.args.kwarg or node.args.kwonlyargs or node.args.posonlyargs)
                if isinstance(node, ast.Constant) and isinstance(node.value, str):
                    self.assertNotIn("%", node.value)
                    if node not in notes:
                        self.assertFalse(WORDS & set(re.findall(r"\w+", node.value)), (name, node.value))
                if isinstance(node, ast.Constant):
                    self.assertNotIsInstance(node.value, (float, complex))
                if isinstance(node, ast.Compare):
                    for sign, side in zip(node.ops, node.comparators):
                        if isinstance(sign, (ast.Is, ast.IsNot)):
                            self.assertIs(side.value, None)
                if isinstance(node, ast.BinOp) and isinstance(node.op, ast.Pow):
                    self.assertIn(node.right.value, range(65))
                if isinstance(node, ast.Try):
                    self.assertFalse(node.orelse or node.finalbody)
                    for handler in node.handlers:
                        caught = handler.type.elts if isinstance(handler.type, ast.Tuple) else [handler.type]
                        self.assertTrue({each.id for each in caught} <= own_errors, (name, node.lineno))
                        self.assertIsNone(handler.name)
                if isinstance(node, ast.Set):
                    self.fail((name, node.lineno))
                if isinstance(node, ast.FormattedValue):
                    self.assertIsInstance(node.value, ast.Name)
                    self.assertTrue(node.format_spec is None or node.format_spec.values[0].value == "b")

    def test_calls(self):
        methods = set()
        for tree in self.trees.values():
            for node in tree.body:
                if isinstance(node, ast.ClassDef):
                    methods |= {part.name for part in node.body if isinstance(part, ast.FunctionDef)}
        for name, tree in self.trees.items():
            own = {alias.name for node in tree.body if isinstance(node, ast.ImportFrom) for alias in node.names}
            own |= {node.name for node in tree.body if isinstance(node, (ast.FunctionDef, ast.ClassDef))}
            # A function may be passed, too.
            own |= {arg.arg for node in tree.body if isinstance(node, ast.FunctionDef) for arg in node.args.args}
            around = parents(tree)
            for node in ast.walk(tree):
                if isinstance(node, ast.Call) and isinstance(node.func, ast.Name):
                    self.assertIn(node.func.id, own | BUILTINS, (name, node.lineno))
                    if node.func.id in ("zip", "enumerate", "reversed", "range"):
                        user = around[node]
                        ok = isinstance(user, (ast.For, ast.comprehension)) or (
                            isinstance(user, ast.Call) and user.func.id in ("list", "tuple", "sorted", "sum", "enumerate", "zip"))
                        self.assertTrue(ok, (name, node.lineno))
                    if node.func.id == "set":
                        self.assertIn(around[node].func.id, ("sorted", "len"), (name, node.lineno))
                elif isinstance(node, ast.Call):
                    self.assertIsInstance(node.func, ast.Attribute)
                    self.assertIn(node.func.attr, METHODS | methods, (name, node.lineno))
                    self.assertFalse(node.keywords)
                if isinstance(node, ast.Attribute):
                    self.assertNotIn(node.attr, BARRED | {"args", "format", "items_", "sort"})
                if isinstance(node, ast.Raise):
                    self.assertIsInstance(node.exc, ast.Call)
                    self.assertIsInstance(node.exc.func, ast.Name)

    def test_methods_and_attributes(self):
        methods, attributes, properties, others = set(), set(), [], []
        for tree in self.trees.values():
            for node in ast.walk(tree):
                if isinstance(node, ast.ClassDef):
                    names = [part.name for part in node.body if isinstance(part, ast.FunctionDef)]
                    self.assertEqual(len(names), len(set(names)))
                    methods |= set(names)
                    properties += [part.name for part in node.body if isinstance(part, ast.FunctionDef) and part.decorator_list]
                    others += [part.name for part in node.body if isinstance(part, ast.FunctionDef) and not part.decorator_list]
                if isinstance(node, ast.Attribute) and isinstance(node.ctx, ast.Store):
                    self.assertIsInstance(node.value, ast.Name)
                    attributes.add(node.attr)
        self.assertFalse(methods & attributes)
        self.assertEqual(len(properties), len(set(properties)))
        self.assertFalse(set(properties) & set(others))
        self.assertFalse((methods | attributes) & (METHODS - {"copy", "add", "discard"}))

    def test_loops_do_not_change_what_they_go_over(self):
        changing = {"append", "extend", "pop", "insert", "remove", "clear", "reverse", "update", "setdefault"}
        for name, tree in self.trees.items():
            for loop in ast.walk(tree):
                if isinstance(loop, ast.For):
                    over = {node.id for node in ast.walk(loop.iter) if isinstance(node, ast.Name)} - BUILTINS
                    for node in [each for part in loop.body for each in ast.walk(part)]:
                        changed = None
                        if isinstance(node, ast.Call) and isinstance(node.func, ast.Attribute) and node.func.attr in changing:
                            changed = node.func.value
                        if isinstance(node, ast.Subscript) and isinstance(node.ctx, (ast.Store, ast.Del)):
                            changed = node.value
                        if isinstance(changed, ast.Name):
                            self.assertNotIn(changed.id, over, (name, node.lineno))


if __name__ == "__main__":
    unittest.main()
