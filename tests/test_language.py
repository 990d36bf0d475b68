"""The part of Python that the package keeps to, as far as it can be seen in the code."""

import ast
import builtins
import pathlib
import re
import unittest

PACKAGE = pathlib.Path(__file__).resolve().parent.parent / "orderedrules"
FILES = sorted(PACKAGE.rglob("*.py"))

NODES = """Module Expr Constant Import ImportFrom alias FunctionDef arguments arg ClassDef Assign AugAssign If While For
    Return Break Continue Pass Raise Try ExceptHandler Name Load Store Attribute Subscript Slice Call keyword List Tuple
    Dict ListComp comprehension BinOp UnaryOp BoolOp Compare IfExp Lambda JoinedStr FormattedValue And Or Not USub UAdd
    Invert Add Sub Mult FloorDiv Mod Pow BitAnd BitOr BitXor LShift RShift Eq NotEq Lt LtE Gt GtE Is IsNot In NotIn""".split()

BUILTINS = """len range enumerate zip min max sum abs sorted reversed int str bool list tuple dict set frozenset isinstance
    ord repr any all divmod Exception ValueError TypeError KeyError IndexError LookupError ZeroDivisionError ArithmeticError
    OverflowError RuntimeError NotImplementedError AttributeError StopIteration""".split()

METHODS = """append clear copy count endswith extend find get index insert isalnum isalpha isdigit islower isspace isupper
    items join keys ljust lower lstrip partition pop remove replace reverse rfind rjust rpartition rsplit rstrip setdefault
    split splitlines startswith strip update upper values zfill bit_length""".split()

NO_WORDS = """type typing typing_extensions enum Enum IntEnum StrEnum Flag IntFlag Generic Protocol ABC ABCMeta namedtuple
    NamedTuple TypedDict TYPE_CHECKING abstractmethod""".split()

NO_NAMES = """register mro elements open input version_info with_traceback add_note attrgetter breakpoint builtins compile
    copyright credits delattr dir eval exec exit gc getattr globals hasattr help id importlib license locals methodcaller os
    quit setattr super type vars sys format format_map chr print""".split()

WALKED = ("zip", "enumerate", "reversed", "range")
WALKING = ("list", "tuple", "dict", "sorted", "sum", "any", "all", "enumerate", "zip")


def walk(kind):
    """All nodes of this kind, each with its file's name."""
    for path in FILES:
        for node in ast.walk(ast.parse(path.read_text("ascii"))):
            if isinstance(node, kind):
                yield path.name, node


class Language(unittest.TestCase):
    def test_files(self):
        self.assertTrue((PACKAGE / "__init__.py").is_file())
        for path in PACKAGE.rglob("*"):
            if path.name != "__pycache__" and path.suffix != ".pyc":
                self.assertRegex(path.name, r"^[a-z_0-9]+\.py$")

    def test_signs_and_sizes(self):
        for path in FILES:
            lines = path.read_text("ascii").split("\n")
            self.assertLessEqual(len(lines), 401, path.name)
            for line in lines:
                self.assertLessEqual(len(line), 120, path.name)
                self.assertRegex(line, r"^[ -~]*$", path.name)
        for name, node in walk(ast.FunctionDef):
            self.assertLessEqual(node.end_lineno - node.lineno + 1, 40, (name, node.name))

    def test_kinds_of_nodes(self):
        for name, node in walk(ast.AST):
            self.assertIn(type(node).__name__, NODES, (name, getattr(node, "lineno", None)))

    def test_assignments_have_one_target(self):
        for name, node in walk(ast.Assign):
            self.assertEqual(len(node.targets), 1, (name, node.lineno))
            self.assertNotIsInstance(node.targets[0], (ast.Tuple, ast.List), (name, node.lineno))

    def test_loops_and_comprehensions(self):
        for name, node in walk((ast.For, ast.While)):
            self.assertEqual(node.orelse, [], (name, node.lineno))
        for name, node in walk(ast.ListComp):
            self.assertEqual(len(node.generators), 1, (name, node.lineno))
            self.assertLessEqual(len(node.generators[0].ifs), 1, (name, node.lineno))

    def test_imports(self):
        self.assertEqual([name for name, node in walk(ast.Import)], [])
        drawn = {path.stem: set() for path in FILES}
        for name, node in walk(ast.ImportFrom):
            package, module = node.module.split(".")
            self.assertEqual((package, node.level), ("orderedrules", 0), name)
            defined = ast.parse((PACKAGE / (module + ".py")).read_text("ascii")).body
            names = {part.name for part in defined if isinstance(part, (ast.FunctionDef, ast.ClassDef))}
            names |= {part.targets[0].id for part in defined if isinstance(part, ast.Assign)}
            for alias in node.names:
                self.assertIn(alias.name, names, name)
                self.assertIsNone(alias.asname, name)
            drawn[name[:-3]].add(module)
        for step in drawn:
            for module in drawn:
                for middle in list(drawn[module]):
                    drawn[module] |= drawn[middle]
        for module in drawn:
            self.assertNotIn(module, drawn[module])

    def test_imports_are_used(self):
        for path in FILES:
            tree = ast.parse(path.read_text("ascii"))
            used = {node.id for node in ast.walk(tree) if isinstance(node, ast.Name)}
            for node in ast.walk(tree):
                if isinstance(node, ast.ImportFrom):
                    for alias in node.names:
                        self.assertIn(alias.name, used, path.name)

    def test_the_top_of_a_file(self):
        for path in FILES:
            body = ast.parse(path.read_text("ascii")).body
            self.assertIsInstance(body[0].value, ast.Constant, path.name)
            names = []
            for node in body[1:]:
                self.assertIsInstance(node, (ast.ImportFrom, ast.FunctionDef, ast.ClassDef, ast.Assign), path.name)
                if isinstance(node, ast.Assign):
                    ast.literal_eval(node.value)
                    names.append(node.targets[0].id)
                elif isinstance(node, ast.ImportFrom):
                    names += [alias.name for alias in node.names]
                else:
                    names.append(node.name)
            self.assertEqual(len(names), len(set(names)), path.name)

    def test_names(self):
        for path in FILES:
            tree = ast.parse(path.read_text("ascii"))
            top = {part.name for part in tree.body if isinstance(part, ast.ClassDef)}
            for node in tree.body:
                if isinstance(node, ast.ImportFrom):
                    top |= {alias.name for alias in node.names}
            own = set(dir(builtins))
            for node in ast.walk(tree):
                if isinstance(node, ast.arg) or isinstance(node, ast.Name) and isinstance(node.ctx, ast.Store):
                    bound = node.arg if isinstance(node, ast.arg) else node.id
                    self.assertNotIn(bound, top | own, (path.name, node.lineno))
                    self.assertRegex(bound, r"^[A-Za-z][A-Za-z0-9_]*$", path.name)
                if isinstance(node, ast.Name):
                    self.assertNotIn(node.id, NO_NAMES, (path.name, node.lineno))
                    if node.id in own:
                        self.assertIn(node.id, BUILTINS, (path.name, node.lineno))
                if isinstance(node, (ast.FunctionDef, ast.ClassDef)):
                    self.assertNotIn(node.name, NO_NAMES + list(own), (path.name, node.lineno))

    def test_words_that_stand_nowhere(self):
        for path in FILES:
            text = path.read_text("ascii")
            self.assertEqual(set(re.findall(r"\w+", text)) & set(NO_WORDS), set(), path.name)
            self.assertIsNone(re.search("dataclass|overload|contextmanager", text), path.name)

    def test_texts_and_numbers(self):
        for name, node in walk(ast.Constant):
            if isinstance(node.value, str):
                self.assertNotIn("%", node.value, (name, node.lineno))
            else:
                self.assertIn(type(node.value), (int, bool, type(None)), (name, node.lineno))

    def test_classes(self):
        methods, values = set(), set()
        for name, node in walk(ast.ClassDef):
            self.assertLessEqual(len(node.bases), 1, name)
            self.assertEqual(node.decorator_list, [], name)
            for part in node.body:
                self.assertIsInstance(part, (ast.FunctionDef, ast.Expr), (name, part.lineno))
                if isinstance(part, ast.FunctionDef):
                    methods.add(part.name)
            for part in ast.walk(node):
                if isinstance(part, ast.Attribute) and isinstance(part.ctx, ast.Store):
                    values.add(part.attr)
        self.assertEqual(methods & values, set())
        own = set().union(*[dir(kind) for kind in (str, int, list, dict, set, bytes)])
        self.assertEqual((methods | values) & own, {"__init__"})
        for name, node in walk(ast.Attribute):
            self.assertIn(node.attr, METHODS + sorted(methods | values), (name, node.lineno))

    def test_functions(self):
        for name, node in walk(ast.FunctionDef):
            self.assertEqual(node.decorator_list, [], name)
            given = node.args
            self.assertEqual((given.vararg, given.kwarg, given.kwonlyargs, given.posonlyargs), (None, None, [], []), name)

    def test_is_stands_beside_none_true_and_false(self):
        for name, node in walk(ast.Compare):
            for sign, right in zip(node.ops, node.comparators):
                if isinstance(sign, (ast.Is, ast.IsNot)):
                    self.assertIn(right.value, (None, True, False), (name, node.lineno))

    def test_errors(self):
        for name, node in walk(ast.ExceptHandler):
            self.assertEqual(node.type.id, "Fault", name)
        for name, node in walk(ast.Raise):
            self.assertIn(node.exc.func.id, ("Fault", "KeyError"), name)

    def test_walked_at_once(self):
        walked = set()
        for name, node in walk((ast.For, ast.comprehension)):
            walked.add((name, ast.dump(node.iter)))
        for name, node in walk(ast.Call):
            if isinstance(node.func, ast.Name) and node.func.id in WALKING and node.args:
                walked.add((name, ast.dump(node.args[0])))
        for name, node in walk(ast.Call):
            called = node.func.id if isinstance(node.func, ast.Name) else node.func.attr
            if called in WALKED or called in ("items", "keys", "values"):
                self.assertIn((name, ast.dump(node)), walked, (name, node.lineno))


if __name__ == "__main__":
    unittest.main()
