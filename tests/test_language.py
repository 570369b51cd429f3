"""The package's own files keep to the part of Python that the program is to be written in (L1 to L28)."""

import ast
import builtins
import os
import re
import unittest

ROOT = os.path.dirname(os.path.dirname(os.path.abspath(__file__)))
PACKAGE = os.path.join(ROOT, "gridfit")
PYTHONS_OWN = set(vars(builtins))

OWN_NAMES = set("""len range enumerate zip min max sum abs sorted reversed int str bool list tuple dict set frozenset
isinstance ord repr any all divmod Exception ValueError TypeError KeyError IndexError LookupError ZeroDivisionError
ArithmeticError OverflowError RuntimeError NotImplementedError AttributeError StopIteration""".split())
METHODS = set("""append clear copy count endswith extend find get index insert isalnum isalpha isdigit islower isspace
isupper items join keys ljust lower lstrip partition pop remove replace reverse rfind rjust rpartition rsplit rstrip
setdefault split splitlines startswith strip update upper values zfill bit_length""".split())
WORDS_NOWHERE = """type typing typing_extensions enum Enum IntEnum StrEnum Flag IntFlag Generic Protocol ABC ABCMeta
namedtuple NamedTuple TypedDict TYPE_CHECKING abstractmethod""".split()
PARTS_NOWHERE = ("dataclass", "overload", "contextmanager")
NAMES_NOWHERE = set("""register mro elements open input version_info with_traceback add_note attrgetter breakpoint
builtins compile copyright credits delattr dir eval exec exit gc getattr globals hasattr help id importlib license
locals methodcaller os quit setattr super type vars sys format format_map chr print""".split())
NODES = (ast.Module, ast.ImportFrom, ast.alias, ast.FunctionDef, ast.arguments, ast.arg, ast.ClassDef, ast.Assign,
         ast.AugAssign, ast.If, ast.While, ast.For, ast.Return, ast.Break, ast.Continue, ast.Pass, ast.Raise, ast.Try,
         ast.ExceptHandler, ast.Expr, ast.Constant, ast.List, ast.Tuple, ast.Dict, ast.BinOp, ast.UnaryOp, ast.BoolOp,
         ast.Compare, ast.IfExp, ast.Call, ast.Attribute, ast.Subscript, ast.Slice, ast.ListComp, ast.comprehension,
         ast.Name, ast.Load, ast.Store, ast.operator, ast.unaryop, ast.boolop, ast.cmpop)


def files():
    for name in sorted(os.listdir(PACKAGE)):
        if name == "__pycache__":
            continue
        with open(os.path.join(PACKAGE, name), encoding="utf-8") as source:
            yield name, source.read()



TEXTS = dict(files())
TREES = {name: ast.parse(text) for name, text in TEXTS.items()}


def nodes(kind):
    return [(name, node) for name, tree in TREES.items() for node in ast.walk(tree) if isinstance(node, kind)]


def is_plain(value, above):
    if isinstance(value, ast.Constant):
        return value.value is None or isinstance(value.value, (bool, int, str))
    if isinstance(value, ast.UnaryOp):
        return isinstance(value.op, ast.USub) and is_plain(value.operand, above)
    if isinstance(value, (ast.List, ast.Tuple)):
        return all(is_plain(part, above) for part in value.elts)
    if isinstance(value, ast.Dict):
        return all(is_plain(part, above) for part in value.keys + value.values)
    return isinstance(value, ast.Name) and value.id in above


class Files(unittest.TestCase):
    def test_names(self):
        for name in TEXTS:
            self.assertRegex(name, r"^[a-z][a-z0-9_]*\.py$|^__init__\.py$")
            self.assertFalse(name[:-3] in PYTHONS_OWN)

    def test_signs_and_sizes(self):
        for name, text in TEXTS.items():
            self.assertTrue(all(" " <= sign <= "~" or sign == "\n" for sign in text), name)
            lines = text.split("\n")
            self.assertLessEqual(len(lines), 400, name)
            self.assertLessEqual(max(len(line) for line in lines), 120, name)
        for name, node in nodes(ast.FunctionDef):
            self.assertLessEqual(node.end_lineno - node.lineno + 1, 40, (name, node.name))

    def test_words(self):
        for name, text in TEXTS.items():
            for word in WORDS_NOWHERE:
                self.assertIsNone(re.search(rf"\b{word}\b", text), (name, word))
            for part in PARTS_NOWHERE:
                self.assertNotIn(part, text, name)


class Imports(unittest.TestCase):
    def test_from_the_very_file(self):
        for name, node in nodes((ast.Import, ast.ImportFrom)):
            self.assertIsInstance(node, ast.ImportFrom)
            self.assertEqual(node.level, 0)
            target = node.module.split(".")
            self.assertEqual(target[0], "gridfit")
            tree = TREES[target[1] + ".py"]
            defined = [part.name for part in tree.body if isinstance(part, (ast.FunctionDef, ast.ClassDef))]
            defined += [part.targets[0].id for part in tree.body if isinstance(part, ast.Assign)]
            for alias in node.names:
                self.assertIn(alias.name, defined)
                self.assertIsNone(alias.asname)

    def test_all_are_used(self):
        for name, tree in TREES.items():
            used = {node.id for node in ast.walk(tree) if isinstance(node, ast.Name)}
            for node in ast.walk(tree):
                if isinstance(node, ast.ImportFrom):
                    for alias in node.names:
                        self.assertIn(alias.name, used, name)

    def test_no_circle(self):
        draws = {name: [node.module.split(".")[1] + ".py" for node in tree.body if isinstance(node, ast.ImportFrom)]
                 for name, tree in TREES.items()}
        done = []
        while len(done) < len(draws):
            ready = [name for name in draws if name not in done and all(other in done for other in draws[name])]
            self.assertTrue(ready, "a circle")
            done += ready
        self.assertEqual(draws["__init__.py"], [])


class Forms(unittest.TestCase):
    def test_kinds_of_nodes(self):
        for name, node in nodes(ast.AST):
            self.assertIsInstance(node, NODES, (name, getattr(node, "lineno", None)))

    def test_the_top_of_a_file(self):
        for name, tree in TREES.items():
            self.assertIsInstance(ast.get_docstring(tree), str, name)
            above = []
            bound = []
            for node in tree.body[1:]:
                if isinstance(node, ast.Assign):
                    self.assertTrue(is_plain(node.value, above), (name, node.lineno))
                    bound.append(node.targets[0].id)
                elif isinstance(node, ast.ImportFrom):
                    bound += [alias.name for alias in node.names]
                else:
                    self.assertIsInstance(node, (ast.FunctionDef, ast.ClassDef), (name, node.lineno))
                    bound.append(node.name)
                    above.append(node.name)
            self.assertEqual(len(bound), len(set(bound)), name)

    def test_lists_and_dicts_of_the_top(self):
        for name, tree in TREES.items():
            kept = [node.targets[0].id for node in tree.body
                    if isinstance(node, ast.Assign) and isinstance(node.value, (ast.List, ast.Dict))]
            for node in tree.body:
                if isinstance(node, ast.Assign) and isinstance(node.value, (ast.List, ast.Dict)):
                    inner = [part for part in ast.walk(node.value) if isinstance(part, (ast.List, ast.Dict))]
                    self.assertEqual(len(inner), 1, name)
            read = [node.value.id for node in ast.walk(tree) if isinstance(node, (ast.Attribute, ast.Subscript))
                    and isinstance(node.value, ast.Name) and node.value.id in kept
                    and (isinstance(node, ast.Subscript) or node.attr == "get")]
            loads = [node.id for node in ast.walk(tree)
                     if isinstance(node, ast.Name) and isinstance(node.ctx, ast.Load) and node.id in kept]
            self.assertEqual(sorted(read), sorted(loads), name)

    def test_functions(self):
        for name, node in nodes(ast.FunctionDef):
            given = node.args
            self.assertEqual((node.decorator_list, given.vararg, given.kwarg, given.kwonlyargs, node.returns),
                             ([], None, None, [], None), (name, node.name))
            self.assertTrue(all(part.annotation is None for part in given.args))

    def test_classes(self):
        methods = set()
        held = set()
        for name, node in nodes(ast.ClassDef):
            self.assertIn(node, TREES[name].body)
            self.assertLessEqual(len(node.bases), 1)
            self.assertEqual(node.decorator_list, [])
            for part in node.body:
                self.assertTrue(isinstance(part, ast.FunctionDef) or isinstance(part.value, ast.Constant))
                if isinstance(part, ast.FunctionDef) and part.name != "__init__":
                    self.assertNotIn("__", part.name)
                    methods.add(part.name)
        for name, node in nodes(ast.Attribute):
            if isinstance(node.ctx, ast.Store):
                held.add(node.attr)
        self.assertEqual(methods & held, set())
        taken = {word for kind in (str, int, list, dict, set, bytes) for word in vars(kind)}
        self.assertEqual((methods | held) & taken, set())

    def test_statements(self):
        for name, node in nodes(ast.Assign):
            self.assertEqual(len(node.targets), 1)
            self.assertNotIsInstance(node.targets[0], (ast.Tuple, ast.List), (name, node.lineno))
        for name, node in nodes((ast.For, ast.While)):
            self.assertEqual(node.orelse, [], (name, node.lineno))
        for name, node in nodes(ast.Try):
            self.assertEqual(node.finalbody, [])
            self.assertTrue(all(handler.type.id == "Fault" for handler in node.handlers))
        for name, node in nodes(ast.Raise):
            self.assertIsInstance(node.exc, ast.Call)
        for name, node in nodes(ast.Expr):
            self.assertIsInstance(node.value, (ast.Call, ast.Constant), (name, node.lineno))

    def test_expressions(self):
        for name, node in nodes(ast.Constant):
            self.assertIn(type(node.value), (int, str, bool, type(None)), (name, node.lineno))
            if isinstance(node.value, str):
                self.assertNotIn("%", node.value)
        for name, node in nodes(ast.BinOp):
            self.assertNotIsInstance(node.op, (ast.Div, ast.MatMult, ast.Pow), (name, node.lineno))
        for name, node in nodes(ast.ListComp):
            self.assertEqual(len(node.generators), 1)
            self.assertLessEqual(len(node.generators[0].ifs), 1)
        for name, node in nodes(ast.Compare):
            if any(isinstance(sign, (ast.Is, ast.IsNot)) for sign in node.ops):
                self.assertTrue(isinstance(node.comparators[0], ast.Constant), (name, node.lineno))


class Names(unittest.TestCase):
    def test_plain(self):
        for name, tree in TREES.items():
            top = {part.name for part in tree.body if isinstance(part, ast.ClassDef)}
            for part in tree.body:
                if isinstance(part, ast.ImportFrom):
                    top |= {alias.name for alias in part.names}
            for node in ast.walk(tree):
                if isinstance(node, ast.Name):
                    self.assertRegex(node.id, r"^[A-Za-z][A-Za-z0-9_]*$")
                    self.assertNotIn(node.id, NAMES_NOWHERE, name)
                    if isinstance(node.ctx, ast.Store):
                        self.assertFalse(node.id in PYTHONS_OWN, (name, node.id))
                        self.assertNotIn(node.id, top, name)
                    elif node.id in PYTHONS_OWN:
                        self.assertIn(node.id, OWN_NAMES, name)
                if isinstance(node, ast.arg):
                    self.assertFalse(node.arg in PYTHONS_OWN, (name, node.arg))
                    self.assertNotIn(node.arg, top, name)
                if isinstance(node, ast.FunctionDef):
                    self.assertFalse(node.name in PYTHONS_OWN, (name, node.name))
                if isinstance(node, ast.Attribute):
                    self.assertTrue(node.attr == "__init__" or not node.attr.startswith("_"))
                    self.assertNotIn(node.attr, NAMES_NOWHERE, name)

    def test_methods(self):
        own = {part.name for name, node in nodes(ast.ClassDef) for part in node.body
               if isinstance(part, ast.FunctionDef)}
        for name, node in nodes(ast.Call):
            self.assertEqual(node.keywords, [], (name, node.lineno))
            if isinstance(node.func, ast.Attribute):
                self.assertTrue(node.func.attr in METHODS or node.func.attr in own, (name, node.func.attr))

    def test_walked_at_once(self):
        for name, node in nodes(ast.Assign):
            if isinstance(node.value, ast.Call) and isinstance(node.value.func, ast.Name):
                self.assertNotIn(node.value.func.id, ("range", "enumerate", "zip", "reversed"), (name, node.lineno))


if __name__ == "__main__":
    unittest.main()
