"""The package keeps to its small part of the language, as far as a walk through its trees can see."""

import ast
import builtins
import pathlib
import re
import unittest

PACKAGE = pathlib.Path(__file__).resolve().parent.parent / "pagehouse"

NODES = set("""
Module FunctionDef ClassDef arguments arg Assign AugAssign If While For Return Break Continue Pass Raise Try
ExceptHandler Expr ImportFrom alias Constant List Tuple Dict BinOp UnaryOp BoolOp Compare IfExp Call Attribute
Subscript Slice ListComp comprehension JoinedStr FormattedValue Name Load Store Lambda keyword
Add Sub Mult FloorDiv Mod Pow BitAnd BitOr BitXor LShift RShift Invert USub Not And Or
Eq NotEq Lt LtE Gt GtE In NotIn Is IsNot
""".split())

OWN_NAMES = set("""
len range enumerate zip min max sum abs sorted reversed int str bool list tuple dict set frozenset isinstance ord
repr any all divmod Exception ValueError TypeError KeyError IndexError LookupError ZeroDivisionError ArithmeticError
OverflowError RuntimeError NotImplementedError AttributeError StopIteration
""".split())

METHODS = set("""
append clear copy count endswith extend find get index insert isalnum isalpha isdigit islower isspace isupper items
join keys ljust lower lstrip partition pop remove replace reverse rfind rjust rpartition rsplit rstrip setdefault split
splitlines startswith strip update upper values zfill bit_length
""".split())

UNUSED_WORDS = """
type typing typing_extensions enum Enum IntEnum StrEnum Flag IntFlag Generic Protocol ABC ABCMeta namedtuple NamedTuple
TypedDict TYPE_CHECKING abstractmethod
""".split()


def walked(kind):
    """Every node of a kind in the package, with its file's name."""
    for path in sorted(PACKAGE.glob("*.py")):
        for node in ast.walk(ast.parse(path.read_text())):
            if isinstance(node, kind):
                yield path.name, node


def own_attributes():
    """The methods and the values of the package's own classes."""
    methods = set()
    values = set()
    for unused, owner in walked(ast.ClassDef):
        methods |= {node.name for node in owner.body if isinstance(node, ast.FunctionDef)}
        values |= {node.attr for node in ast.walk(owner)
                   if isinstance(node, ast.Attribute) and isinstance(node.ctx, ast.Store)}
    return methods, values


class FormTest(unittest.TestCase):
    def test_files(self):
        names = [path.name for path in PACKAGE.iterdir() if path.name != "__pycache__"]
        self.assertIn("__init__.py", names)
        for name in names:
            self.assertRegex(name, r"^(__init__|__main__|[a-z][a-z0-9_]*)\.py$")
            self.assertNotIn(name[:-3], dir(builtins))

    def test_signs_and_sizes(self):
        for path in sorted(PACKAGE.glob("*.py")):
            text = path.read_bytes().decode("utf-8")
            self.assertRegex(text, r"^[ -~\n]*$", path.name)
            self.assertLessEqual(max(len(row) for row in text.split("\n")), 120, path.name)
            self.assertLessEqual(text.count("\n"), 400, path.name)
            for word in UNUSED_WORDS:
                self.assertNotRegex(text, rf"\b{word}\b", path.name)
            self.assertIsNone(re.search("dataclass|overload|contextmanager", text), path.name)
        for name, node in walked(ast.FunctionDef):
            self.assertLessEqual(node.end_lineno - node.lineno + 1, 40, f"{name}: {node.name}")

    def test_statements_and_expressions(self):
        for name, node in walked(ast.AST):
            self.assertIn(node.__class__.__name__, NODES, f"{name}:{getattr(node, 'lineno', 0)}")

    def test_narrow_forms(self):
        for name, node in walked((ast.For, ast.While)):
            self.assertEqual(node.orelse, [], f"{name}:{node.lineno}")
        for name, node in walked(ast.Try):
            self.assertEqual(node.finalbody, [], f"{name}:{node.lineno}")
        for name, node in walked(ast.Assign):
            self.assertEqual(len(node.targets), 1, f"{name}:{node.lineno}")
        for name, node in walked(ast.BinOp):
            if isinstance(node.op, ast.Pow):
                self.assertIsInstance(node.right, ast.Constant, f"{name}:{node.lineno}")
        for name, node in walked(ast.Constant):
            self.assertIn(node.value.__class__, (int, str, bool, None.__class__), f"{name}:{node.lineno}")
        for name, node in walked((ast.FunctionDef, ast.ClassDef)):
            self.assertEqual(node.decorator_list, [], f"{name}:{node.lineno}")
        for name, node in walked(ast.arguments):
            self.assertEqual((node.vararg, node.kwarg, node.kwonlyargs, node.posonlyargs), (None, None, [], []), name)
        for name, node in walked(ast.Compare):
            for op, right in zip(node.ops, node.comparators):
                if isinstance(op, (ast.Is, ast.IsNot)):
                    self.assertIsInstance(right, ast.Constant, f"{name}:{node.lineno}")

    def test_imports(self):
        for name, node in walked(ast.ImportFrom):
            self.assertEqual(node.level, 0, name)
            self.assertTrue(node.module.startswith("pagehouse."), name)
            source = PACKAGE / (node.module.split(".")[1] + ".py")
            parts = ast.parse(source.read_text()).body
            defined = [part.name for part in parts if isinstance(part, (ast.FunctionDef, ast.ClassDef))]
            # A list or dict of a file's top is not handed on, so whole numbers alone are drawn beside these.
            defined += [part.targets[0].id for part in parts
                        if isinstance(part, ast.Assign) and isinstance(ast.literal_eval(part.value), int)]
            for drawn in node.names:
                self.assertIn(drawn.name, defined, name)
                self.assertIsNone(drawn.asname, name)

    def test_no_file_draws_from_one_that_draws_from_it(self):
        sources = {path.stem: set() for path in PACKAGE.glob("*.py")}
        for name, node in walked(ast.ImportFrom):
            sources[name[:-3]].add(node.module.split(".")[1])
        self.assertEqual(sources["__init__"], set())
        while sources:
            ready = [name for name in sources if not sources[name] & set(sources)]
            self.assertNotEqual(ready, [], sources)
            for name in ready:
                sources.pop(name)

    def test_no_local_is_called_like_an_import_or_a_class(self):
        for path in sorted(PACKAGE.glob("*.py")):
            nodes = list(ast.walk(ast.parse(path.read_text())))
            above = {node.name for node in nodes if isinstance(node, (ast.ClassDef, ast.alias))}
            local = {node.id for node in nodes if isinstance(node, ast.Name) and isinstance(node.ctx, ast.Store)}
            local |= {node.arg for node in nodes if isinstance(node, ast.arg)}
            self.assertEqual(above & local, set(), path.name)

    def test_names(self):
        for name, node in walked((ast.Name, ast.arg, ast.FunctionDef, ast.ClassDef)):
            word = getattr(node, "id", None) or getattr(node, "arg", None) or node.name
            self.assertRegex(word, r"^([A-Za-z][A-Za-z0-9_]*|__init__)$", name)
            if isinstance(node, ast.Name) and isinstance(node.ctx, ast.Load):
                self.assertTrue(word in OWN_NAMES or word not in dir(builtins), f"{name}: {word}")
            elif not isinstance(node, ast.FunctionDef):
                self.assertNotIn(word, dir(builtins), name)

    def test_methods_and_values(self):
        methods, values = own_attributes()
        self.assertEqual(methods & values, set())
        taken = {word for kind in (str, int, list, dict, set, bytes) for word in dir(kind)} - {"__init__"}
        self.assertEqual((methods | values) & taken, set())
        for name, node in walked(ast.Attribute):
            self.assertIn(node.attr, METHODS | methods | values, f"{name}:{node.lineno}")

    def test_the_top_of_each_file(self):
        for path in sorted(PACKAGE.glob("*.py")):
            body = ast.parse(path.read_text()).body
            self.assertIsInstance(body[0], ast.Expr, path.name)
            bound = []
            for node in body[1:]:
                self.assertIsInstance(node, (ast.ImportFrom, ast.FunctionDef, ast.ClassDef, ast.Assign), path.name)
                if isinstance(node, ast.Assign):
                    bound.append(node.targets[0].id)
                    ast.literal_eval(node.value)
                elif isinstance(node, ast.ImportFrom):
                    bound += [drawn.name for drawn in node.names]
                else:
                    bound.append(node.name)
            self.assertEqual(len(bound), len(set(bound)), path.name)


if __name__ == "__main__":
    unittest.main()
