"""Tests that the package keeps those rules of LANGUAGE.md that are easy to see in its files."""

import ast
import builtins
import re
import unittest
from pathlib import Path

PACKAGE = Path(__file__).resolve().parent.parent / "quotaboard"

BUILTINS = """len range enumerate zip min max sum abs sorted reversed int str bool list tuple dict set frozenset isinstance
    ord repr any all divmod iter next property staticmethod classmethod super Exception ValueError TypeError KeyError
    IndexError LookupError ZeroDivisionError ArithmeticError OverflowError RuntimeError NotImplementedError
    AttributeError StopIteration NotImplemented""".split()

METHODS = """append clear copy count endswith extend find get index insert isalnum isalpha isdigit islower isspace isupper
    items join keys ljust lower lstrip partition pop remove replace reverse rfind rjust rpartition rsplit rstrip
    setdefault split splitlines startswith strip update upper values zfill bit_length sort add discard""".split()

DOUBLE = """init eq repr str len enter exit call iter lt le gt ge ne add sub mul floordiv mod pow and or xor neg pos
    invert abs bool contains getitem setitem""".split()

BARRED_WORDS = """type typing typing_extensions enum Enum IntEnum StrEnum Flag IntFlag Generic Protocol ABC ABCMeta
    namedtuple NamedTuple TypedDict TYPE_CHECKING abstractmethod""".split()

BARRED_NAMES = """register mro elements open input law version_info with_traceback add_note attrgetter breakpoint
    builtins compile copyright credits delattr dir eval exec exit gc getattr globals hasattr help id importlib license
    locals methodcaller os quit setattr type vars sys format format_map""".split()

BARRED_NODES = (
    ast.Global, ast.AsyncFunctionDef, ast.AsyncFor, ast.AsyncWith, ast.Await, ast.Import, ast.Div, ast.MatMult,
    ast.AnnAssign,
)


def sources():
    """Return pairs of each file of the package and its text."""
    return [(path, path.read_text(encoding="utf-8")) for path in sorted(PACKAGE.rglob("*.py"))]


def nodes(*kinds):
    """Return pairs of file name and node, for all nodes of these kinds."""
    return [
        (path.name, node) for path, text in sources() for node in ast.walk(ast.parse(text))
        if isinstance(node, kinds)
    ]


class Files(unittest.TestCase):
    def test_only_plainly_named_python_files(self):
        for path in PACKAGE.rglob("*"):
            if "__pycache__" in path.parts:
                continue
            self.assertRegex(path.name, r"^([a-z][a-z0-9_]*|__init__|__main__)\.py$")

    def test_characters_and_sizes(self):
        for path, text in sources():
            self.assertRegex(text, r"^[ -~\n]*$", path.name)
            lines = text.split("\n")
            self.assertLess(len(lines), 400, path.name)
            self.assertLessEqual(max(len(line) for line in lines), 120, path.name)

    def test_words_that_no_file_has(self):
        for path, text in sources():
            self.assertEqual(set(re.findall(r"[A-Za-z0-9_]+", text)) & set(BARRED_WORDS), set(), path.name)
            self.assertNotRegex(text, "dataclass|overload|contextmanager", path.name)


class Code(unittest.TestCase):
    def test_no_barred_statement_or_sign(self):
        for name, node in nodes(*BARRED_NODES):
            self.fail(f"{name}:{node.lineno}: {ast.dump(node)}" if hasattr(node, "lineno") else f"{name}: {node}")

    def test_imports_come_from_the_package(self):
        for name, node in nodes(ast.ImportFrom):
            self.assertEqual(node.level, 0, name)
            self.assertRegex(node.module, r"^quotaboard\.[a-z]+$", name)
            self.assertNotIn("*", [alias.name for alias in node.names], name)

    def test_functions_are_short(self):
        for name, node in nodes(ast.FunctionDef):
            self.assertLessEqual(node.end_lineno - node.lineno + 1, 40, f"{name}: {node.name}")

    def test_names(self):
        known = vars(builtins)
        for name, node in nodes(ast.Name):
            if node.id in known:
                self.assertIn(node.id, BUILTINS, name)
                self.assertIsInstance(node.ctx, ast.Load, name)
            self.assertNotIn(node.id, BARRED_NAMES, name)
            self.assertFalse(node.id.startswith("_"), name)
        for name, node in nodes(ast.arg):
            self.assertNotIn(node.arg, list(known) + BARRED_NAMES, name)
            self.assertIsNone(node.annotation, name)
        for name, node in nodes(ast.FunctionDef, ast.ClassDef):
            plain = re.fullmatch(r"[A-Za-z][A-Za-z0-9_]*", node.name) and node.name not in BARRED_NAMES
            self.assertTrue(plain or node.name.strip("_") in DOUBLE, f"{name}: {node.name}")

    def test_attributes(self):
        own = {node.name for name, node in nodes(ast.FunctionDef)}
        values = {
            target.id for name, node in nodes(ast.ClassDef) for part in node.body if isinstance(part, ast.Assign)
            for target in part.targets
        }
        stored = {node.attr for name, node in nodes(ast.Attribute) if isinstance(node.ctx, ast.Store)}
        for name, node in nodes(ast.Attribute):
            self.assertTrue(node.attr == "__init__" or not node.attr.startswith("_"), name)
            self.assertNotIn(node.attr, BARRED_NAMES, name)
            self.assertIn(node.attr, own | stored | values | set(METHODS) | {"__init__", "setter"}, name)
            if isinstance(node.ctx, ast.Store):
                self.assertNotIn(node.attr, METHODS, name)

    def test_no_name_is_a_method_and_an_attribute(self):
        methods = {part.name for name, node in nodes(ast.ClassDef) for part in node.body if hasattr(part, "name")}
        settable = {
            part.name for name, node in nodes(ast.ClassDef) for part in node.body
            if any(isinstance(sign, ast.Attribute) for sign in getattr(part, "decorator_list", []))
        }
        for name, node in nodes(ast.Attribute):
            if isinstance(node.ctx, ast.Store) and node.attr not in settable:
                self.assertNotIn(node.attr, methods, name)

    def test_no_variable_has_the_name_of_an_import_or_a_class(self):
        for path, text in sources():
            tree = ast.parse(text)
            bound = {alias.name for node in ast.walk(tree) if isinstance(node, ast.ImportFrom) for alias in node.names}
            bound |= {node.name for node in ast.walk(tree) if isinstance(node, (ast.ClassDef, ast.FunctionDef))}
            bound -= {part.name for node in ast.walk(tree) if isinstance(node, ast.ClassDef) for part in node.body
                      if isinstance(part, ast.FunctionDef)}
            for node in ast.walk(tree):
                if isinstance(node, ast.Name) and isinstance(node.ctx, ast.Store):
                    self.assertNotIn(node.id, bound, path.name)
                if isinstance(node, ast.arg):
                    self.assertNotIn(node.arg, bound, path.name)

    def test_super_stands_only_in_the_call_of_a_method(self):
        called = [
            node.func for name, node in nodes(ast.Call)
            if isinstance(node.func, ast.Attribute) and isinstance(node.func.value, ast.Call)
            and isinstance(node.func.value.func, ast.Name) and node.func.value.func.id == "super"
        ]
        for function in called:
            self.assertTrue(function.attr == "__init__" or not function.attr.startswith("_"))
            self.assertEqual(function.value.args, [])
        self.assertEqual(len(called), len([node for name, node in nodes(ast.Name) if node.id == "super"]))

    def test_what_leaves_a_block_only_sets_attributes(self):
        for name, node in nodes(ast.FunctionDef):
            for part in node.body if node.name == "__exit__" else []:
                self.assertIsInstance(part, ast.Assign, name)
                self.assertIsInstance(part.value, (ast.Constant, ast.Name, ast.Attribute), name)

    def test_plain_values(self):
        for name, node in nodes(ast.Constant):
            self.assertNotIsInstance(node.value, (float, complex), name)
            if isinstance(node.value, str):
                self.assertNotIn("%", node.value, name)

    def test_is_stands_beside_none_true_and_false(self):
        for name, node in nodes(ast.Compare):
            if any(isinstance(sign, (ast.Is, ast.IsNot)) for sign in node.ops):
                self.assertIsInstance(node.comparators[-1], ast.Constant, name)

    def test_no_generator_expression_where_lists_are_asked_for(self):
        for name, node in nodes(ast.Call):
            if isinstance(node.func, ast.Name) and node.func.id in ("sum", "min", "max", "sorted", "any", "all"):
                self.assertFalse(any(isinstance(part, ast.GeneratorExp) for part in node.args), name)

    def test_only_error_classes_are_raised(self):
        for name, node in nodes(ast.Raise):
            if node.exc is not None:
                self.assertRegex(node.exc.func.id, "Error$", name)


if __name__ == "__main__":
    unittest.main()
