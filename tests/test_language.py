"""The form of the package: the rules of the language that can be seen in the code."""

import ast
import builtins
import keyword
import pathlib
import re
import sys
import unittest

FOLDER = pathlib.Path(__file__).resolve().parent.parent / "howeverled"
BUILTINS = """len range enumerate zip min max sum abs sorted reversed int str bool list tuple dict set frozenset
isinstance ord repr any all divmod map iter next Exception ValueError TypeError KeyError IndexError LookupError
ZeroDivisionError ArithmeticError OverflowError RuntimeError NotImplementedError AttributeError StopIteration
NotImplemented""".split()
LIBRARY = {
    "heapq": "heappush heappop heapify heapreplace heappushpop".split(),
    "math": "gcd lcm isqrt comb perm factorial".split(),
    "itertools": "product combinations permutations".split(),
}
METHODS = """append clear copy count endswith extend find get index insert isalnum isalpha isdigit islower isspace
isupper items join keys ljust lower lstrip partition pop remove replace reverse rfind rjust rpartition rsplit rstrip
setdefault split splitlines startswith strip update upper values zfill bit_length""".split()
DOUBLE = """__init__ __eq__ __repr__ __str__ __len__ __add__ __lt__ __le__ __gt__ __ge__ __ne__ __sub__ __mul__ __neg__
__bool__ __contains__ __call__""".split()
BARRED = """register mro elements open input law version_info with_traceback add_note attrgetter breakpoint builtins
compile copyright credits delattr dir eval exec exit gc getattr globals hasattr help id importlib license locals
methodcaller os quit setattr super type vars sys""".split()
WORDS = """type typing typing_extensions enum Enum IntEnum StrEnum Flag IntFlag Generic Protocol ABC ABCMeta namedtuple
NamedTuple TypedDict TYPE_CHECKING abstractmethod dataclass overload contextmanager _wall _WallAttr""".split()
ON_THE_SPOT = "list tuple dict sorted sum any all enumerate zip bytes min max reversed".split()
LAZY = "zip enumerate reversed range".split()
VIEWS = "items keys values".split()
NO_GENERATOR = "any all min max sum sorted".split()
CHANGES = "append clear extend insert pop remove reverse setdefault update sort add discard".split()


def files():
    return sorted(FOLDER.glob("*.py"))


def called(node):
    """The bare name that is called, or None."""
    return node.func.id if isinstance(node, ast.Call) and isinstance(node.func, ast.Name) else None


def functions_in(tree):
    return [node for node in ast.walk(tree) if isinstance(node, ast.FunctionDef)]


class Form(unittest.TestCase):
    def each(self):
        for path in files():
            text = path.read_text(encoding="utf-8")
            tree = ast.parse(text)
            parents = {child: node for node in ast.walk(tree) for child in ast.iter_child_nodes(node)}
            yield path.name, text, tree, parents

    def wrong(self, name, node, what):
        self.fail(f"{name}:{getattr(node, 'lineno', 0)}: {what}")

    def test_folder(self):
        names = [path.name for path in FOLDER.iterdir() if path.name != "__pycache__"]
        self.assertLessEqual(len(names), 100)
        for name in names:
            self.assertRegex(name, r"^(__init__|[a-z][a-z0-9_]*)\.py$")
            stem = name[:-3]
            self.assertNotIn(stem, dir(builtins))
            self.assertNotIn(stem, BARRED + WORDS)
            self.assertFalse(re.match(r"law_|test|site$|conftest|(heapq|math|itertools)$", stem), name)
        self.assertNotIn("howeverled", sys.stdlib_module_names)

    def test_text(self):
        for name, text, tree, _ in self.each():
            self.assertIsNone(re.search(r"[^ -~\n]", text), name)
            rows = text.split("\n")
            self.assertLessEqual(len(rows) - 1, 399, name)
            for at, row in enumerate(rows):
                self.assertLessEqual(len(row), 120, f"{name}:{at + 1}")
            for function in functions_in(tree):
                if function.end_lineno - function.lineno + 1 > 40:
                    self.wrong(name, function, "more than 40 lines")

    def test_strings(self):
        for name, text, tree, parents in self.each():
            for node in ast.walk(tree):
                if isinstance(node, ast.Constant) and isinstance(node.value, str):
                    value = node.value
                    if "%" in value or value.endswith(("._", ".__")) or re.match(r"__.*__$", value):
                        self.wrong(name, node, "string")
                    docstring = isinstance(parents[node], ast.Expr)
                    if not docstring and re.search(r"\b(" + "|".join(WORDS) + r")\b", value):
                        self.wrong(name, node, "word in a string")
                if isinstance(node, ast.Constant) and isinstance(node.value, (float, complex, bytes)):
                    self.wrong(name, node, "value")

    def test_imports(self):
        defined, imports = {}, {}
        for name, _, tree, _ in self.each():
            bound = []
            seen_other = False
            for node in tree.body:
                if isinstance(node, ast.ImportFrom):
                    self.assertFalse(seen_other, name)
                    self.assertEqual(node.level, 0)
                    for alias in node.names:
                        self.assertIsNone(alias.asname, name)
                        bound.append(alias.name)
                        imports.setdefault(name, []).append((node.module, alias.name))
                elif isinstance(node, (ast.FunctionDef, ast.ClassDef)):
                    seen_other = True
                    bound.append(node.name)
                    defined.setdefault(name, []).append(node.name)
                elif isinstance(node, ast.Assign):
                    seen_other = True
                    self.assertEqual(len(node.targets), 1)
                    bound.append(node.targets[0].id)
                    defined.setdefault(name, []).append(node.targets[0].id)
                    ast.literal_eval(node.value)
                else:
                    self.assertTrue(isinstance(node, ast.Expr) and isinstance(node.value.value, str), name)
            self.assertEqual(len(bound), len(set(bound)), name)
            used = {node.id for node in ast.walk(tree) if isinstance(node, ast.Name)}
            for _, told in imports.get(name, []):
                self.assertIn(told, used, name)
        for name, told in imports.items():
            for module, what in told:
                if module in LIBRARY:
                    self.assertIn(what, LIBRARY[module])
                else:
                    self.assertTrue(module.startswith("howeverled."), module)
                    self.assertIn(what, defined[module.split(".")[1] + ".py"], (name, module))
        self.no_circle({name: {module.split(".")[1] + ".py" for module, _ in told if "." in module}
                        for name, told in imports.items()})

    def no_circle(self, needs):
        done = set()

        def visit(name, above):
            self.assertNotIn(name, above)
            if name not in done:
                for other in needs.get(name, ()):
                    visit(other, above | {name})
                done.add(name)

        for name in needs:
            visit(name, frozenset())

    def test_names(self):
        for name, _, tree, _ in self.each():
            outer = {one.asname or one.name for node in tree.body if isinstance(node, ast.ImportFrom)
                     for one in node.names}
            outer |= {node.name for node in tree.body if isinstance(node, ast.ClassDef)}
            for node in ast.walk(tree):
                stored = None
                if isinstance(node, ast.Name) and isinstance(node.ctx, ast.Store):
                    stored = node.id
                elif isinstance(node, ast.arg):
                    stored = node.arg
                elif isinstance(node, (ast.FunctionDef, ast.ClassDef)):
                    stored = node.name
                if stored is not None:
                    module_level = node in tree.body or any(
                        isinstance(one, ast.Assign) and node in one.targets for one in tree.body)
                    if stored in dir(builtins) and stored not in DOUBLE:
                        self.wrong(name, node, f"{stored} is a builtin")
                    if stored in BARRED or keyword.issoftkeyword(stored) and stored != "_":
                        self.wrong(name, node, f"{stored} is barred")
                    if stored.startswith("__") and stored not in DOUBLE:
                        self.wrong(name, node, stored)
                    if not module_level and stored in outer:
                        self.wrong(name, node, f"{stored} is an import or a class of the file")
                    if not re.match(r"_?[A-Za-z][A-Za-z0-9_]*$|_$|__\w+__$", stored):
                        self.wrong(name, node, stored)
                    if re.match(r"_wall|_pe_|_dcw_|_enum_|_cm_|_twin_re_|_lay_|_law_|_stub_|_sre", stored):
                        self.wrong(name, node, stored)
                if isinstance(node, ast.Name) and isinstance(node.ctx, ast.Load):
                    if node.id == "_" or (node.id in dir(builtins) and node.id not in BUILTINS):
                        self.wrong(name, node, f"{node.id} is read")

    def test_statements(self):
        barred = (ast.Global, ast.AsyncFunctionDef, ast.AsyncFor, ast.AsyncWith, ast.Await, ast.Import, ast.Try,
                  ast.With, ast.Match, ast.NamedExpr, ast.Div, ast.MatMult, ast.Nonlocal)
        for name, _, tree, parents in self.each():
            for node in ast.walk(tree):
                if isinstance(node, barred):
                    self.wrong(name, node, type(node).__name__)
                if isinstance(node, (ast.FunctionDef, ast.ClassDef)) and node.decorator_list:
                    self.wrong(name, node, "decorator")
                if isinstance(node, ast.Compare):
                    for op, right in zip(node.ops, node.comparators):
                        if isinstance(op, (ast.Is, ast.IsNot)):
                            if not (isinstance(right, ast.Constant) and right.value in (None, True, False)):
                                self.wrong(name, node, "is")
                if isinstance(node, ast.Raise):
                    self.assertIsInstance(node.exc, ast.Call)
                    self.assertIsInstance(node.exc.func, ast.Name)
                if isinstance(node, ast.BinOp) and isinstance(node.op, ast.Pow):
                    self.wrong(name, node, "power")
                if isinstance(node, ast.Attribute) and node.attr.startswith("__") and node.attr not in DOUBLE:
                    self.wrong(name, node, node.attr)
                if isinstance(node, ast.ClassDef):
                    for one in node.body:
                        if not isinstance(one, (ast.FunctionDef, ast.Expr)):
                            self.wrong(name, one, "in a class")

    def test_calls(self):
        own = {function.name for _, _, tree, _ in self.each() for function in functions_in(tree)}
        for name, _, tree, parents in self.each():
            for node in ast.walk(tree):
                if not isinstance(node, ast.Call):
                    continue
                told = called(node)
                if isinstance(node.func, ast.Attribute) and node.func.attr not in METHODS:
                    self.assertIn(node.func.attr, own, (name, node.lineno))
                if told in BUILTINS:
                    allowed = {"sorted": ("key", "reverse"), "min": ("key", "default"), "max": ("key", "default"),
                               "sum": ("start",), "enumerate": ("start",), "zip": ("strict",)}.get(told, ())
                    for word in node.keywords:
                        self.assertIn(word.arg, allowed, (name, node.lineno))
                if told in NO_GENERATOR:
                    for argument in node.args:
                        self.assertNotIsInstance(argument, ast.GeneratorExp, (name, node.lineno))
                if told == "map" or told == "iter" or told == "next":
                    self.wrong(name, node, told)

    def test_library(self):
        """What comes from the library is only called, by position; what makes rows of things is iterated at once."""
        names = [one for told in LIBRARY.values() for one in told]
        for name, _, tree, parents in self.each():
            brought = {alias.name for node in tree.body if isinstance(node, ast.ImportFrom) and node.module in LIBRARY
                       for alias in node.names}
            for node in ast.walk(tree):
                if not (isinstance(node, ast.Name) and node.id in names):
                    continue
                self.assertIn(node.id, brought, name)
                call = parents[node]
                if not (isinstance(call, ast.Call) and call.func is node) or call.keywords:
                    self.wrong(name, node, "not called by position")
                if any(isinstance(one, ast.Starred) for one in call.args):
                    self.wrong(name, node, "a star")
                if node.id in LIBRARY["itertools"]:
                    parent = parents[call]
                    if not (isinstance(parent, (ast.For, ast.comprehension)) and parent.iter is call):
                        self.wrong(name, node, "not iterated at once")

    def test_generators(self):
        """No generator is a generator expression, and none has the name of another function."""
        makers, others = [], []
        for name, _, tree, _ in self.each():
            for function in functions_in(tree):
                yields = [one for one in ast.walk(function) if isinstance(one, (ast.Yield, ast.YieldFrom))]
                (makers if yields else others).append(function.name)
            for node in ast.walk(tree):
                if isinstance(node, ast.GeneratorExp):
                    self.wrong(name, node, "generator expression")
        self.assertEqual(sorted(makers), ["all_splits", "standings_from", "stretch_of"])
        self.assertEqual(set(makers) & set(others), set())

    def test_iterated_at_once(self):
        for name, _, tree, parents in self.each():
            for node in ast.walk(tree):
                if not isinstance(node, ast.Call):
                    continue
                view = isinstance(node.func, ast.Attribute) and node.func.attr in VIEWS
                if called(node) not in LAZY and not view:
                    continue
                parent = parents[node]
                at_once = isinstance(parent, (ast.For, ast.comprehension)) and parent.iter is node
                at_once = at_once or (called(parent) in ON_THE_SPOT and parent.args[0] is node)
                if not at_once:
                    self.wrong(name, node, "not iterated at once")

    def test_sets(self):
        for name, _, tree, parents in self.each():
            for node in ast.walk(tree):
                if called(node) in ("set", "frozenset") or isinstance(node, (ast.Set, ast.SetComp)):
                    if called(parents[node]) not in ("sorted", "len"):
                        self.wrong(name, node, "set")

    def test_loops_leave_what_they_iterate_over(self):
        for name, _, tree, _ in self.each():
            for loop in ast.walk(tree):
                if not isinstance(loop, ast.For):
                    continue
                over = {ast.unparse(node) for node in ast.walk(loop.iter) if isinstance(node, (ast.Name, ast.Attribute))}
                for node in [one for row in loop.body for one in ast.walk(row)]:
                    changed = None
                    if isinstance(node, ast.Call) and isinstance(node.func, ast.Attribute):
                        if node.func.attr in CHANGES:
                            changed = node.func.value
                    elif isinstance(node, ast.Subscript) and isinstance(node.ctx, (ast.Store, ast.Del)):
                        changed = node.value
                    if changed is not None and ast.unparse(changed) in over:
                        self.wrong(name, node, "changed in its loop")

    def test_methods_and_attributes(self):
        """No name is a method and an attribute."""
        methods, attributes = set(), set()
        for _, _, tree, _ in self.each():
            for node in ast.walk(tree):
                if isinstance(node, ast.ClassDef):
                    methods |= {one.name for one in node.body if isinstance(one, ast.FunctionDef)}
                if isinstance(node, ast.Attribute) and isinstance(node.ctx, ast.Store):
                    attributes.add(node.attr)
        self.assertEqual(methods & attributes, set())
        self.assertEqual(attributes & set(METHODS + BARRED), set())

    def test_docstrings(self):
        for name, _, tree, _ in self.each():
            for node in [tree, *ast.walk(tree)]:
                if isinstance(node, (ast.Module, ast.ClassDef)):
                    self.assertIsNotNone(ast.get_docstring(node), name)
                if isinstance(node, ast.FunctionDef) and not node.name.startswith("__"):
                    self.assertIsNotNone(ast.get_docstring(node), (name, node.name))


if __name__ == "__main__":
    unittest.main()
