"""The rules of LANGUAGE.md that can be seen in the files of the package."""

import ast
import builtins
import pathlib
import re
import unittest

PACKAGE = pathlib.Path(__file__).resolve().parent.parent / "gatewords"

LET_BUILTINS = set("""len range enumerate zip min max sum abs sorted reversed int str bool list tuple dict
    set isinstance ord repr any all divmod ValueError""".split())
LET_METHODS = set("""append clear copy count endswith extend find get index insert isalnum isalpha
    isdigit islower isspace isupper items join keys ljust lower lstrip partition pop remove replace
    reverse rfind rjust rpartition rsplit rstrip setdefault split splitlines startswith strip update
    upper values zfill bit_length""".split())
LIBRARY = {"math": {"gcd", "lcm", "isqrt", "comb", "perm", "factorial"},
           "itertools": {"product", "combinations", "permutations"},
           "heapq": {"heappush", "heappop", "heapify"}}
BARRED = set("""type typing typing_extensions enum Enum IntEnum StrEnum Flag IntFlag Generic Protocol ABC
    ABCMeta namedtuple NamedTuple TypedDict TYPE_CHECKING abstractmethod mro elements open input law
    version_info with_traceback add_note register attrgetter breakpoint builtins compile copyright
    credits delattr dir eval exec exit gc getattr globals hasattr help id importlib license locals
    methodcaller os quit setattr vars sys""".split())
AT_ONCE = {"zip", "enumerate", "reversed", "range"}
EATERS = {"list", "tuple", "dict", "sorted", "sum", "any", "all", "enumerate", "zip", "min", "max"}
LET_NODES = (
    ast.Module, ast.Import, ast.ImportFrom, ast.alias, ast.FunctionDef, ast.ClassDef, ast.arguments, ast.arg,
    ast.Return, ast.Assign, ast.AugAssign, ast.For, ast.While, ast.If, ast.Raise, ast.Expr, ast.Pass,
    ast.Break, ast.Continue, ast.Delete, ast.Assert, ast.BoolOp, ast.BinOp, ast.UnaryOp, ast.Lambda, ast.IfExp,
    ast.Dict, ast.ListComp, ast.DictComp, ast.SetComp, ast.comprehension, ast.Compare, ast.Call,
    ast.keyword, ast.JoinedStr, ast.FormattedValue, ast.Constant, ast.Attribute, ast.Subscript, ast.Starred,
    ast.Try, ast.ExceptHandler, ast.Name, ast.List, ast.Tuple, ast.Slice, ast.expr_context, ast.boolop, ast.operator, ast.unaryop,
    ast.cmpop)


def files():
    return sorted(PACKAGE.glob("*.py"))


def parsed(path):
    tree = ast.parse(path.read_text())
    for node in ast.walk(tree):
        for child in ast.iter_child_nodes(node):
            child.parent = node
    return tree


def bound_names(tree):
    """The names that functions bind: parameters, variables, nested functions."""
    found = []
    for node in ast.walk(tree):
        if isinstance(node, ast.arg):
            found.append((node.arg, node))
        if isinstance(node, ast.Name) and isinstance(node.ctx, (ast.Store, ast.Del)):
            found.append((node.id, node))
        if isinstance(node, (ast.FunctionDef, ast.ClassDef)):
            found.append((node.name, node))
    return found


def root_name(node):
    while isinstance(node, (ast.Subscript, ast.Attribute)):
        node = node.value
    return node.id if isinstance(node, ast.Name) else None


class Language(unittest.TestCase):

    def wrong(self, path, node, words):
        self.fail(f"{path.name}:{getattr(node, 'lineno', 0)}: {words}")

    def each_node(self):
        for path in files():
            for node in ast.walk(parsed(path)):
                yield path, node

    def test_files(self):
        self.assertLessEqual(len(files()), 100)
        for path in PACKAGE.iterdir():
            if path.name != "__pycache__":
                self.assertRegex(path.name, r"^[a-z0-9_]+\.py$")
                self.assertTrue(path.stem == "__init__" or not hasattr(builtins, path.stem), path.name)
        for path in files():
            lines = path.read_text().splitlines()
            self.assertLessEqual(len(lines), 399, path.name)
            for number, line in enumerate(lines, 1):
                self.assertLessEqual(len(line), 120, f"{path.name}:{number}")
                self.assertRegex(line, r"^[ -~]*$", f"{path.name}:{number}")

    def test_functions_are_short(self):
        for path, node in self.each_node():
            if isinstance(node, ast.FunctionDef):
                if node.end_lineno - node.lineno + 1 > 40:
                    self.wrong(path, node, "too long")
                if node.decorator_list or node.returns:
                    self.wrong(path, node, "decorated or annotated")

    def test_nodes(self):
        for path, node in self.each_node():
            if not isinstance(node, LET_NODES):
                self.wrong(path, node, f"{type(node).__name__} is not let")
            if isinstance(node, (ast.Div, ast.MatMult)):
                self.wrong(path, node.parent, "operator not let")
            if isinstance(node, ast.Constant) and isinstance(node.value, (float, complex, bytes)):
                self.wrong(path, node, "value not let")
            if isinstance(node, ast.Pow):
                power = node.parent.right
                if not isinstance(power, ast.Constant) or not 0 <= power.value <= 64:
                    self.wrong(path, node.parent, "an exponent that is no literal")

    def test_module_level(self):
        for path in files():
            for node in parsed(path).body:
                text = isinstance(node, ast.Expr) and isinstance(node.value, ast.Constant)
                value = isinstance(node, ast.Assign) and isinstance(node.targets[0], ast.Name)
                if value:
                    value = not any(isinstance(x, (ast.Call, ast.Name, ast.ListComp))
                                    for x in ast.walk(node.value))
                if not (text or value or isinstance(node, (ast.ImportFrom, ast.FunctionDef, ast.ClassDef))):
                    self.wrong(path, node, "not let at module level")

    def test_imports(self):
        homes = {}
        links = {}
        for path in files():
            homes[path.stem] = {node.name for node in parsed(path).body
                                if isinstance(node, (ast.FunctionDef, ast.ClassDef))}
            homes[path.stem] |= {node.targets[0].id for node in parsed(path).body
                                 if isinstance(node, ast.Assign)}
        for path in files():
            links[path.stem] = []
            used = {node.id for node in ast.walk(parsed(path)) if isinstance(node, ast.Name)}
            for node in ast.walk(parsed(path)):
                if isinstance(node, ast.Import):
                    self.wrong(path, node, "import of a module")
                if not isinstance(node, ast.ImportFrom):
                    continue
                for name in node.names:
                    self.assertIsNone(name.asname)
                    self.assertIn(name.name, used, f"{path.name} does not use {name.name}")
                if node.module in LIBRARY:
                    self.assertLessEqual({name.name for name in node.names}, LIBRARY[node.module])
                    continue
                package, home = node.module.split(".")
                self.assertEqual(package, "gatewords")
                self.assertLessEqual({name.name for name in node.names}, homes[home], path.name)
                links[path.stem].append(home)
        known = {}

        def depth(stem, above):
            self.assertNotIn(stem, above, f"a ring of imports: {above}")
            if stem not in known:
                known[stem] = 1 + max([depth(home, above + [stem]) for home in links[stem]], default=0)
            return known[stem]

        for stem in links:
            depth(stem, [])

    def test_names(self):
        for path in files():
            tree = parsed(path)
            outer = {node.name for node in tree.body if isinstance(node, ast.ClassDef)}
            for node in tree.body:
                if isinstance(node, ast.ImportFrom):
                    outer |= {name.name for name in node.names}
            at_module = [name for name, node in bound_names(tree) if getattr(node, "parent", None) is tree
                         or isinstance(getattr(node, "parent", None), ast.Assign) and node.parent.parent is tree]
            self.assertEqual(len(at_module), len(set(at_module)), path.name)
            for name, node in bound_names(tree):
                if name in outer and not isinstance(node, ast.ClassDef):
                    self.wrong(path, node, f"{name} is a class or an import of this file")
                method = isinstance(node, ast.FunctionDef) and isinstance(node.parent, ast.ClassDef)
                if hasattr(builtins, name) and not method:
                    self.wrong(path, node, f"{name} is the name of a builtin")
                if not re.fullmatch(r"_?[A-Za-z][A-Za-z0-9_]*|_|__(init|eq)__", name):
                    self.wrong(path, node, f"{name} is not plain")
                if name in BARRED:
                    self.wrong(path, node, f"{name} is barred")
            for node in ast.walk(tree):
                if isinstance(node, ast.Name) and node.id == "_" and isinstance(node.ctx, ast.Load):
                    self.wrong(path, node, "_ is read")
                if isinstance(node, ast.Attribute) and node.attr in BARRED:
                    self.wrong(path, node, f"{node.attr} is barred")

    def test_builtins_and_methods(self):
        own = {node.name for path, node in self.each_node() if isinstance(node, ast.FunctionDef)}
        for path, node in self.each_node():
            if isinstance(node, ast.Name) and isinstance(node.ctx, ast.Load) and hasattr(builtins, node.id):
                in_error = node.id in ("super",)
                if node.id not in LET_BUILTINS and not in_error:
                    self.wrong(path, node, f"{node.id} is not let")
            if isinstance(node, ast.Call) and isinstance(node.func, ast.Attribute):
                name = node.func.attr
                if name == "__init__":
                    continue
                if name not in LET_METHODS and name not in own:
                    self.wrong(path, node, f"method {name} is not let")

    def test_at_once(self):
        for path, node in self.each_node():
            if not isinstance(node, ast.Call):
                continue
            name = node.func.id if isinstance(node.func, ast.Name) else None
            view = isinstance(node.func, ast.Attribute) and node.func.attr in ("items", "keys", "values")
            if name not in AT_ONCE and not view:
                continue
            parent = node.parent
            if isinstance(parent, (ast.For, ast.comprehension)) and parent.iter is node:
                continue
            if isinstance(parent, ast.Call) and isinstance(parent.func, ast.Name) and parent.args[0] is node:
                if parent.func.id in EATERS or name == "range" and parent.func.id == "reversed":
                    continue
            if isinstance(parent, ast.Call) and isinstance(parent.func, ast.Name) and parent.func.id == "zip":
                continue
            self.wrong(path, node, "not iterated at once")

    def test_sets(self):
        for path, node in self.each_node():
            made = isinstance(node, ast.SetComp) or isinstance(node, ast.Call) \
                and isinstance(node.func, ast.Name) and node.func.id == "set"
            if not made:
                continue
            parent = node.parent
            if isinstance(parent, ast.Call) and parent.func.id in ("sorted", "len") and not parent.keywords:
                continue
            self.wrong(path, node, "a set that stands nowhere else")

    def test_comparisons_and_raises(self):
        for path, node in self.each_node():
            if isinstance(node, ast.Compare):
                for sign, other in zip(node.ops, node.comparators):
                    if isinstance(sign, (ast.Is, ast.IsNot)) and not isinstance(other, ast.Constant):
                        self.wrong(path, node, "is between values")
            if isinstance(node, ast.Raise):
                if not isinstance(node.exc, ast.Call) or not isinstance(node.exc.func, ast.Name):
                    self.wrong(path, node, "an error that is not made on the spot")

    def test_handlers_name_own_errors(self):
        own = {node.name for node in parsed(PACKAGE / "errors.py").body if isinstance(node, ast.ClassDef)}
        for path, node in self.each_node():
            if isinstance(node, ast.ExceptHandler):
                named = node.type.elts if isinstance(node.type, ast.Tuple) else [node.type]
                if not all(isinstance(one, ast.Name) and one.id in own for one in named):
                    self.wrong(path, node, "a handler of errors that are not own ones")

    def test_equality_assigns_nothing(self):
        for path, node in self.each_node():
            if isinstance(node, ast.FunctionDef) and node.name == "__eq__":
                if any(isinstance(inner, (ast.Assign, ast.AugAssign)) for inner in ast.walk(node)):
                    self.wrong(path, node, "an assignment in __eq__")

    def test_loops_change_nothing_they_go_over(self):
        for path, node in self.each_node():
            if not isinstance(node, ast.For):
                continue
            over = node.iter
            while isinstance(over, ast.Call):
                if isinstance(over.func, ast.Attribute):
                    over = over.func.value
                elif over.func.id in ("enumerate", "reversed") and over.args:
                    over = over.args[0]
                else:
                    break
            name = root_name(over)
            if name is None:
                continue
            for inner in [x for part in node.body for x in ast.walk(part)]:
                changed = None
                if isinstance(inner, ast.Call) and isinstance(inner.func, ast.Attribute):
                    if inner.func.attr in ("append", "pop", "extend", "insert", "remove", "clear", "update"):
                        changed = root_name(inner.func.value)
                if isinstance(inner, ast.Subscript) and isinstance(inner.ctx, (ast.Store, ast.Del)):
                    changed = root_name(inner)
                if changed == name and name != "self":
                    self.wrong(path, inner, f"{name} is changed in a loop over it")

    def test_strings(self):
        for path, node in self.each_node():
            if isinstance(node, ast.Constant) and isinstance(node.value, str):
                if isinstance(node.parent, ast.Expr):
                    continue
                self.assertNotIn("%", node.value, path.name)
                for word in re.findall(r"\w+", node.value):
                    # A word of an answer, which only as a name is barred.
                    self.assertNotIn(word, BARRED - {"open"}, path.name)

    def test_calls_with_generators(self):
        for path, node in self.each_node():
            if isinstance(node, ast.GeneratorExp):
                self.wrong(path, node, "a generator expression")


if __name__ == "__main__":
    unittest.main()
