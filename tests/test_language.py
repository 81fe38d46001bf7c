"""The package keeps to the part of Python that the rules allow, as far as that can be seen from its text."""
import ast
import builtins
import pathlib
import re
import unittest

FOLDER = pathlib.Path(__file__).resolve().parent.parent / "pallethallfare"
FILES = sorted(FOLDER.glob("*.py"))
NODES = """Module FunctionDef arguments arg ClassDef Return Assign AugAssign For While If Raise Try ImportFrom alias Expr
Pass Break Continue ExceptHandler BoolOp BinOp UnaryOp Lambda IfExp Dict ListComp comprehension Compare Call JoinedStr
FormattedValue Constant Attribute Subscript Name List Tuple Slice Load Store And Or Add Sub Mult FloorDiv Mod Pow LShift
RShift BitOr BitXor BitAnd Invert Not UAdd USub Eq NotEq Lt LtE Gt GtE Is IsNot In NotIn""".split()
OWN = """len range enumerate zip min max sum abs sorted reversed int str bool list tuple dict set frozenset isinstance ord
repr any all divmod Exception ValueError TypeError KeyError IndexError LookupError ZeroDivisionError ArithmeticError
OverflowError RuntimeError NotImplementedError StopIteration""".split()
METHODS = """append clear copy count endswith extend find get index insert isalnum isalpha isdigit islower isspace isupper
items join keys ljust lower lstrip partition pop remove replace reverse rfind rjust rpartition rsplit rstrip setdefault
split splitlines startswith strip update upper values zfill bit_length""".split()
WORDS = """type typing typing_extensions enum Enum IntEnum StrEnum Flag IntFlag Generic Protocol ABC ABCMeta namedtuple
NamedTuple TypedDict TYPE_CHECKING abstractmethod""".split()
UNUSED = "register mro elements open input version_info with_traceback add_note".split()


def nodes(path, *kinds):
    tree = ast.parse(path.read_text(encoding="ascii"))
    return [node for node in ast.walk(tree) if not kinds or isinstance(node, kinds)]


def bound_names(path):
    stored = [n.id for n in nodes(path, ast.Name) if isinstance(n.ctx, ast.Store)]
    return stored + [n.arg for n in nodes(path, ast.arg)]


def own_methods():
    found = []
    for path in FILES:
        for node in nodes(path, ast.ClassDef):
            found.extend(n.name for n in node.body if isinstance(n, ast.FunctionDef))
    return found


class Language(unittest.TestCase):
    def test_files(self):
        self.assertTrue((FOLDER / "park.py").is_file())
        for path in FOLDER.iterdir():
            if path.name != "__pycache__":
                self.assertRegex(path.name, r"^(__init__|[a-z][a-z0-9_]*)\.py$")

    def test_signs_sizes_and_words(self):
        for path in FILES:
            text = path.read_bytes().decode("ascii")
            self.assertIsNone(re.search(r"[^ -~\n]", text), path)
            rows = text.split("\n")
            self.assertLessEqual(len(rows), 400, path)
            self.assertLessEqual(max(len(line) for line in rows), 120, path)
            for word in re.findall(r"[A-Za-z_0-9]+", text):
                self.assertNotIn(word, WORDS, path)
                self.assertIsNone(re.search("dataclass|overload|contextmanager", word), path)

    def test_nodes(self):
        for path in FILES:
            for node in nodes(path):
                self.assertIn(type(node).__name__, NODES, (path, getattr(node, "lineno", 0)))

    def test_functions(self):
        for path in FILES:
            for node in nodes(path, ast.FunctionDef):
                self.assertLessEqual(node.end_lineno - node.lineno + 1, 40, node.name)
                self.assertEqual((node.decorator_list, node.args.vararg, node.args.kwarg, node.args.kwonlyargs),
                                 ([], None, None, []))

    def test_statements(self):
        for path in FILES:
            for node in nodes(path, ast.Expr):
                self.assertTrue(isinstance(node.value, ast.Call) or node.col_offset == 0, path)
            for node in nodes(path, ast.Assign):
                self.assertEqual(len(node.targets), 1)
                self.assertNotIsInstance(node.targets[0], ast.Tuple)
            for node in nodes(path, ast.For, ast.While, ast.ListComp):
                self.assertEqual(getattr(node, "orelse", []), [])
            for node in nodes(path, ast.ListComp):
                self.assertEqual(len(node.generators), 1)
                self.assertLessEqual(len(node.generators[0].ifs), 1)

    def test_imports(self):
        for path in FILES:
            for node in nodes(path, ast.ImportFrom):
                self.assertEqual((node.level, node.col_offset), (0, 0))
                defined = FOLDER / (node.module.split(".")[1] + ".py")
                self.assertEqual(node.module, f"pallethallfare.{defined.stem}")
                tops = [getattr(n, "name", None) or n.targets[0].id for n in ast.parse(defined.read_text()).body
                        if isinstance(n, (ast.FunctionDef, ast.ClassDef, ast.Assign))]
                for name in node.names:
                    self.assertIn(name.name, tops)

    def test_names(self):
        for path in FILES:
            taken = [n.name for n in nodes(path, ast.ClassDef, ast.alias)]
            tops = taken + [n.name for n in nodes(path, ast.FunctionDef)]
            for name in bound_names(path):
                self.assertRegex(name, r"^[A-Za-z][A-Za-z0-9_]*$")
                self.assertFalse(hasattr(builtins, name), (path, name))
                self.assertNotIn(name, tops, path)
            known = tops + bound_names(path) + OWN
            for node in nodes(path, ast.Name):
                self.assertIn(node.id, known, path)
                self.assertNotIn(node.id, UNUSED)

    def test_attributes(self):
        methods = own_methods()
        for path in FILES:
            found = nodes(path)
            called = [n.func for n in found if isinstance(n, ast.Call)]
            for node in [n for n in found if isinstance(n, ast.Attribute)]:
                self.assertNotIn(node.attr, UNUSED)
                if node in called:
                    self.assertIn(node.attr, METHODS + methods, path)
                else:
                    self.assertNotIn(node.attr, methods, path)
                    for value in ("", 0, [], {}, set(), b"", ()):
                        self.assertFalse(hasattr(value, node.attr), (path, node.attr))

    def test_constants(self):
        for path in FILES:
            for node in nodes(path, ast.Constant):
                self.assertIn(type(node.value), (int, str, bool, type(None)))
                if isinstance(node.value, str):
                    self.assertNotIn("%", node.value)


if __name__ == "__main__":
    unittest.main()
