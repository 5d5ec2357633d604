"""The files of the package keep those rules of the language subset that can be seen easily."""

import ast
import builtins
import unittest
from pathlib import Path

FOLDER = Path(__file__).resolve().parent.parent / "quickways"
BUILTINS = set("""len range enumerate zip min max sum abs sorted reversed int str bool list tuple dict set isinstance ord
repr any all divmod iter next super property staticmethod classmethod ValueError KeyError TypeError NotImplemented
""".split())
METHODS = set("""append clear copy count endswith extend find get index insert isalnum isalpha isdigit islower isspace
isupper items join keys ljust lower lstrip partition pop remove replace reverse rfind rjust rpartition rsplit rstrip
setdefault split splitlines startswith strip update upper values zfill bit_length removeprefix removesuffix
""".split())
SPECIAL = set("""__init__ __eq__ __repr__ __str__ __len__ __enter__ __exit__ __call__ __iter__ __lt__ __le__ __gt__
__ge__ __ne__ __add__ __sub__ __mul__ __and__ __or__ __xor__ __iadd__ __isub__ __iand__ __ior__ __ixor__ __neg__
__invert__ __bool__ __contains__ __getitem__ __setitem__
""".split())
NEVER = set("register mro elements open input law version_info with_traceback add_note".split())
WORDS = set("""type typing enum Enum Flag Generic Protocol ABC namedtuple NamedTuple dataclass overload contextmanager
""".split())
FORBIDDEN = (ast.Global, ast.AsyncFunctionDef, ast.Await, ast.GeneratorExp, ast.Set, ast.SetComp, ast.Div,
             ast.AnnAssign,
             ast.NamedExpr)
AT_ONCE = {"list", "tuple", "dict", "enumerate", "zip"}
FILES = sorted(FOLDER.glob("*.py"))


def parsed(path):
    tree = ast.parse(path.read_text())
    for node in ast.walk(tree):
        for child in ast.iter_child_nodes(node):
            child.parent = node
    return tree


TREES = {path.stem: parsed(path) for path in FILES}
NODES = [(stem, node) for stem, tree in TREES.items() for node in ast.walk(tree)]
FUNCTIONS = [(stem, node) for stem, node in NODES if isinstance(node, ast.FunctionDef)]
CLASSES = {node.name: node for _, node in NODES if isinstance(node, ast.ClassDef)}
GENERATORS = {node.name for _, node in FUNCTIONS for part in ast.walk(node)
              if isinstance(part, (ast.Yield, ast.YieldFrom))}


def own_methods():
    return {node.name for made in CLASSES.values() for node in made.body if isinstance(node, ast.FunctionDef)}


def bound_names(stem):
    """The names that a module binds at its top, each as often as it does."""
    found = []
    for node in TREES[stem].body:
        if isinstance(node, ast.ImportFrom):
            found.extend([alias.asname or alias.name for alias in node.names])
        elif isinstance(node, (ast.FunctionDef, ast.ClassDef)):
            found.append(node.name)
        elif isinstance(node, ast.Assign):
            found.extend([target.id for target in node.targets])
    return found


def is_docstring(node):
    return isinstance(node.parent, ast.Expr)


class TestLanguage(unittest.TestCase):
    def none(self, found):
        self.assertEqual([f"{stem}.py:{getattr(node, 'lineno', 0)}" for stem, node in found], [])

    def test_files(self):
        names = [path.name for path in FOLDER.iterdir() if path.name != "__pycache__"]
        self.assertEqual(sorted(names), [path.name for path in FILES])
        for path in FILES:
            text = path.read_text()
            self.assertRegex(path.stem, "^[a-z_0-9]+$")
            self.assertNotIn(path.stem, dir(builtins))
            self.assertTrue(all(sign == "\n" or " " <= sign <= "~" for sign in text), path.name)
            self.assertLessEqual(len(text.splitlines()), 399)
            self.assertLessEqual(max(len(line) for line in text.splitlines()), 120)

    def test_functions_are_small(self):
        self.none([(stem, node) for stem, node in FUNCTIONS if node.end_lineno - node.lineno + 1 > 40])

    def test_forbidden_forms(self):
        self.none([(stem, node) for stem, node in NODES if isinstance(node, FORBIDDEN)])
        self.none([(stem, node) for stem, node in NODES if isinstance(node, ast.Constant)
                   and isinstance(node.value, float)])

    def test_no_annotations(self):
        self.none([(stem, node) for stem, node in NODES if isinstance(node, ast.arg) and node.annotation is not None])
        self.none([(stem, node) for stem, node in FUNCTIONS if node.returns is not None])

    def test_imports(self):
        reached = {stem: [] for stem in TREES}
        for stem, node in NODES:
            self.assertNotIsInstance(node, ast.Import)
            if isinstance(node, ast.ImportFrom):
                self.assertEqual((node.level, node.module.split(".")[0]), (0, "quickways"), stem)
                other = node.module.split(".")[1]
                reached[stem].append(other)
                defined = [part for part in TREES[other].body if not isinstance(part, ast.ImportFrom)]
                told = [getattr(part, "name", None) or part.targets[0].id for part in defined
                        if not isinstance(part, ast.Expr)]
                for alias in node.names:
                    self.assertIn(alias.name, told, (stem, other))
        for stem in reached:
            self.assertNotIn(stem, self.behind(reached, stem), "files import each other")

    def behind(self, reached, stem):
        found, left = set(), list(reached[stem])
        while left:
            other = left.pop()
            if other not in found:
                found.add(other)
                left.extend(reached[other])
        return found

    def test_module_level(self):
        allowed = (ast.Expr, ast.ImportFrom, ast.FunctionDef, ast.ClassDef, ast.Assign)
        for stem, tree in TREES.items():
            self.none([(stem, node) for node in tree.body if not isinstance(node, allowed)])
            names = bound_names(stem)
            self.assertEqual(len(names), len(set(names)), stem)

    def test_module_values_are_plain(self):
        plain = (ast.Constant, ast.Tuple, ast.List, ast.Dict, ast.UnaryOp, ast.USub, ast.Load)
        for stem, tree in TREES.items():
            functions = [node.name for node in tree.body if isinstance(node, ast.FunctionDef)]
            for made in [node for node in tree.body if isinstance(node, ast.Assign)]:
                for node in ast.walk(made.value):
                    self.assertTrue(isinstance(node, plain) or getattr(node, "id", None) in functions, (stem,
                                                                                                        made.lineno))

    def test_what_is_done_when_a_block_is_left(self):
        for stem, made in FUNCTIONS:
            if made.name == "__exit__":
                for node in made.body:
                    self.assertIsInstance(node, ast.Assign, (stem, node.lineno))
                    self.assertIsInstance(node.value, ast.Attribute, (stem, node.lineno))
                    self.assertEqual(len(node.targets), 1)

    def test_super_is_called_on_the_spot(self):
        for stem, node in NODES:
            if isinstance(node, ast.Call) and getattr(node.func, "id", None) == "super":
                self.assertEqual((node.args, type(node.parent), type(node.parent.parent)), ([], ast.Attribute,
                                                                                            ast.Call))

    def test_builtins_and_names(self):
        hidden = set(dir(builtins)) - BUILTINS
        self.none([(stem, node) for stem, node in NODES if isinstance(node, ast.Name) and node.id in hidden])
        stored = [(stem, node) for stem, node in NODES if isinstance(node, ast.Name)
                  and isinstance(node.ctx, ast.Store)]
        self.none([(stem, node) for stem, node in stored if node.id in dir(builtins)])
        told = [(stem, node) for stem, node in NODES if isinstance(node, ast.arg)]
        self.none([(stem, node) for stem, node in told if node.arg in dir(builtins)])
        tops = {stem: bound_names(stem) for stem in TREES}
        self.none([(stem, node) for stem, node in told if node.arg in tops[stem]])
        inner = [(stem, node) for stem, node in stored if not isinstance(node.parent.parent, ast.Module)]
        self.none([(stem, node) for stem, node in inner if node.id in tops[stem]])

    def test_names_that_are_not_used(self):
        for stem, node in NODES:
            for field in ("id", "arg", "attr", "name"):
                self.assertNotIn(getattr(node, field, None), NEVER, stem)
            if isinstance(node, ast.Constant) and isinstance(node.value, str) and not is_docstring(node):
                self.assertFalse(WORDS & set(node.value.split()), (stem, node.lineno))
                self.assertNotIn("%", node.value, (stem, node.lineno))
            if isinstance(node, ast.Name):
                self.assertNotIn(node.id, WORDS, stem)
                self.assertFalse(node.id == "_" and isinstance(node.ctx, ast.Load), stem)

    def test_methods_of_values(self):
        known = METHODS | own_methods()
        calls = [(stem, node) for stem, node in NODES if isinstance(node, ast.Call)
                 and isinstance(node.func, ast.Attribute)]
        self.none([(stem, node) for stem, node in calls if node.func.attr not in known])

    def test_sets_are_used_on_the_spot(self):
        calls = [(stem, node) for stem, node in NODES if isinstance(node, ast.Call) and isinstance(node.func, ast.Name)]
        for stem, node in calls:
            if node.func.id == "set":
                self.assertIsInstance(node.parent, ast.Call, (stem, node.lineno))
                self.assertIn(node.parent.func.id, ("len", "sorted"), (stem, node.lineno))

    def test_is(self):
        for stem, node in NODES:
            if isinstance(node, ast.Compare) and isinstance(node.ops[0], (ast.Is, ast.IsNot)):
                self.assertIn(getattr(node.comparators[0], "value", 0), (None, True, False), (stem, node.lineno))

    def test_errors(self):
        own = {name for name in CLASSES if name in bound_names("errors")}
        for stem, node in NODES:
            if isinstance(node, ast.ExceptHandler):
                self.assertIn(getattr(node.type, "id", None), own | {"KeyError"}, (stem, node.lineno))
            if isinstance(node, ast.Raise) and node.exc is not None:
                self.assertIsInstance(node.exc, ast.Call, (stem, node.lineno))
                self.assertIn(node.exc.func.id, own | {"TypeError"}, (stem, node.lineno))

    def test_classes(self):
        methods = own_methods()
        for name, made in CLASSES.items():
            defined = [node.name for node in made.body if isinstance(node, ast.FunctionDef)]
            special = [word for word in defined if word.startswith("__")]
            self.assertLessEqual(set(special), SPECIAL, name)
            if "__getitem__" in special:
                self.assertIn("__iter__", special)
            fields = {node.attr for node in ast.walk(made) if isinstance(node, ast.Attribute)
                      and isinstance(node.ctx, ast.Store)}
            self.assertFalse(fields & set(defined), name)
            self.assertFalse(fields & GENERATORS, name)
        self.assertNotIn("keys", methods)

    def test_decorated_names_are_no_attributes_and_no_plain_methods(self):
        decorated = {node.name for _, node in FUNCTIONS if node.decorator_list}
        plain = {node.name for made in CLASSES.values() for node in made.body
                 if isinstance(node, ast.FunctionDef) and not node.decorator_list}
        fields = {node.attr for _, node in NODES if isinstance(node, ast.Attribute) and isinstance(node.ctx, ast.Store)}
        room = {"room"}
        self.assertFalse(decorated & plain)
        self.assertFalse((decorated - room) & fields)

    def test_barred_names(self):
        starts = ("_wall", "_pe_", "_dcw_", "_enum_", "_cm_", "_twin_re_", "_lay_", "_law_", "_stub_", "_sre")
        whole = ("_cold", "_tuplegetter", "_outside", "_record", "_written_out", "_member_names")
        for stem, node in NODES:
            for field in ("id", "arg", "attr", "name"):
                told = getattr(node, field, None)
                if isinstance(told, str):
                    self.assertFalse(told.startswith(starts) or told.rstrip("0123456789_") in whole, (stem, told))

    def test_classes_are_not_passed_on(self):
        for stem, node in NODES:
            if isinstance(node, ast.Name) and node.id in CLASSES:
                parent = node.parent
                called = isinstance(parent, ast.Call) and parent.func is node
                asked = isinstance(parent, ast.Call) and getattr(parent.func, "id",
                        None) == "isinstance" and parent.args[1] is node
                self.assertTrue(called or asked
                                or isinstance(parent, (ast.Attribute, ast.ClassDef, ast.ExceptHandler)),
                                (stem, node.lineno))

    def test_views_are_iterated_on_the_spot(self):
        for stem, node in NODES:
            if isinstance(node, ast.Call):
                told = getattr(node.func, "id", None) or getattr(node.func, "attr", None)
                if told in ("zip", "enumerate", "reversed", "items", "keys", "values", "map"):
                    self.assertTrue(self.on_the_spot(node), (stem, node.lineno))

    def on_the_spot(self, node):
        parent = node.parent
        if isinstance(parent, (ast.For, ast.comprehension)):
            return parent.iter is node
        own = getattr(parent, "func", None)
        if isinstance(own, ast.Attribute):
            return own.attr == "join" and isinstance(own.value, ast.Constant)
        ways = {"list", "tuple", "dict", "sorted", "sum", "any", "all", "enumerate", "zip", "iter"}
        return getattr(own, "id", None) in ways and parent.args[0] is node

    def test_no_keywords_for_methods_of_values(self):
        for stem, node in NODES:
            if isinstance(node, ast.Call) and isinstance(node.func,
                                                         ast.Attribute) and node.func.attr in METHODS - own_methods():
                self.assertEqual(node.keywords, [], (stem, node.lineno))

    def test_tables_hold_no_lists_and_dicts(self):
        for stem, tree in TREES.items():
            for node in tree.body:
                if isinstance(node, ast.Assign) and isinstance(node.value, (ast.List, ast.Dict, ast.Tuple)):
                    inner = [part for part in ast.walk(node.value) if part is not node.value]
                    self.none([(stem, part) for part in inner if isinstance(part, (ast.List, ast.Dict, ast.Call))])

    def test_attributes_that_are_read_are_assigned(self):
        stored = {node.attr for _, node in NODES if isinstance(node, ast.Attribute) and isinstance(node.ctx, ast.Store)}
        values = {target.id for made in CLASSES.values() for node in made.body if isinstance(node, ast.Assign)
                  for target in node.targets}
        known = stored | values | own_methods() | METHODS
        self.none([(stem, node) for stem, node in NODES if isinstance(node, ast.Attribute) and node.attr not in known])

    def test_generators_are_iterated_at_once(self):
        names = [node.name for _, node in FUNCTIONS if node.name in GENERATORS]
        self.assertEqual(len(names), len(set(names)))
        for stem, node in NODES:
            if isinstance(node, ast.Call):
                told = getattr(node.func, "id", None) or getattr(node.func, "attr", None)
                if told in GENERATORS:
                    self.assertTrue(self.at_once(node), (stem, node.lineno))

    def at_once(self, node):
        parent = node.parent
        if isinstance(parent, (ast.For, ast.comprehension)):
            return parent.iter is node
        if isinstance(parent, ast.YieldFrom):
            return True
        return isinstance(parent, ast.Call) and getattr(parent.func, "id", None) in AT_ONCE


if __name__ == "__main__":
    unittest.main()
