"""The form of the code, as far as a test can see it; the rules are those of ../shared/LANGUAGE.md."""

import ast
import builtins
import re
import unittest
from pathlib import Path

FOLDER = Path(__file__).resolve().parent.parent / "cranktables"

BUILTINS = set(
    "len range enumerate zip min max sum abs sorted reversed int str bool bytes list tuple dict set frozenset "
    "isinstance ord repr any all divmod Exception ValueError TypeError KeyError IndexError LookupError "
    "ZeroDivisionError ArithmeticError OverflowError RuntimeError NotImplementedError AttributeError "
    "StopIteration NotImplemented super property staticmethod classmethod".split()
)
BARRED_WORDS = set(
    "type typing typing_extensions enum Enum IntEnum StrEnum Flag IntFlag Generic Protocol ABC ABCMeta "
    "namedtuple NamedTuple TypedDict TYPE_CHECKING abstractmethod".split()
)
BARRED_NAMES = set("register mro elements open input version_info with_traceback add_note format format_map".split())
BARRED_NODES = (ast.Global, ast.AsyncFunctionDef, ast.Await, ast.Div, ast.Import, ast.MatMult)


def sources():
    return [(path.name, path.read_text(encoding="ascii")) for path in sorted(FOLDER.glob("*.py"))]


def nodes():
    return [(name, node) for name, text in sources() for node in ast.walk(ast.parse(text))]


def assigned_names(node):
    if isinstance(node, ast.Name) and not isinstance(node.ctx, ast.Load):
        return [node.id]
    if isinstance(node, ast.arg):
        return [node.arg]
    if isinstance(node, (ast.FunctionDef, ast.ClassDef)):
        return [node.name]
    return []


class TestForm(unittest.TestCase):
    def test_the_folder_holds_modules_only(self):
        names = [path.name for path in FOLDER.iterdir() if path.name != "__pycache__"]
        self.assertIn("__init__.py", names)
        for name in names:
            self.assertRegex(name, r"^[a-z][a-z0-9_]*\.py$|^__init__\.py$")

    def test_lines_and_signs(self):
        for name, text in sources():
            self.assertTrue(text.endswith("\n"), name)
            self.assertLessEqual(text.count("\n"), 400, name)
            for line in text.splitlines():
                self.assertLessEqual(len(line), 120, name)
                self.assertRegex(line, r"^[ -~]*$", name)

    def test_functions_are_small(self):
        for name, node in nodes():
            if isinstance(node, ast.FunctionDef):
                self.assertLessEqual(node.end_lineno - node.lineno + 1, 40, (name, node.name))

    def test_imports_name_modules_of_the_package(self):
        for name, node in nodes():
            if isinstance(node, ast.ImportFrom):
                self.assertEqual(node.level, 0, name)
                self.assertTrue(node.module.startswith("cranktables."), (name, node.module))
                text = dict(sources())[node.module.partition(".")[2] + ".py"]
                defined = [made for part in ast.parse(text).body for made in self.made_by(part)]
                for alias in node.names:
                    self.assertIn(alias.name, defined, (name, node.module))

    def made_by(self, part):
        if isinstance(part, ast.Assign):
            return [target.id for target in part.targets]
        return assigned_names(part)

    def test_no_name_is_imported_for_nothing(self):
        for name, text in sources():
            tree = ast.parse(text)
            used = {node.id for node in ast.walk(tree) if isinstance(node, ast.Name)}
            for node in ast.walk(tree):
                if isinstance(node, ast.ImportFrom):
                    self.assertEqual([a.name for a in node.names if a.name not in used], [], name)

    def test_words(self):
        for name, text in sources():
            self.assertEqual(set(re.findall(r"\w+", text)) & BARRED_WORDS, set(), name)
            self.assertNotRegex(text, "dataclass|overload|contextmanager", name)

    def test_names(self):
        for name, node in nodes():
            for made in assigned_names(node):
                if made == "__init__":
                    continue
                self.assertRegex(made, "^[A-Za-z][A-Za-z0-9_]*$", name)
                self.assertFalse(hasattr(builtins, made), (name, made))
                self.assertNotIn(made, BARRED_NAMES, name)
            if isinstance(node, ast.Attribute):
                self.assertNotIn(node.attr, BARRED_NAMES, name)
            if isinstance(node, ast.Name) and hasattr(builtins, node.id):
                self.assertIn(node.id, BUILTINS, name)

    def test_parameters_hide_no_import_and_no_class(self):
        for name, text in sources():
            tree = ast.parse(text)
            taken = {a.name for part in tree.body if isinstance(part, ast.ImportFrom) for a in part.names}
            taken |= {part.name for part in tree.body if isinstance(part, ast.ClassDef)}
            for node in ast.walk(tree):
                if isinstance(node, (ast.arg, ast.Name)):
                    self.assertEqual(set(assigned_names(node)) & taken, set(), name)

    def test_nodes(self):
        for name, node in nodes():
            self.assertNotIsInstance(node, BARRED_NODES, name)
            if isinstance(node, ast.Constant):
                self.assertNotIsInstance(node.value, (float, complex), name)
                if isinstance(node.value, str):
                    self.assertNotIn("%", node.value, name)
            if isinstance(node, ast.BinOp) and isinstance(node.op, ast.Pow):
                self.assertIsInstance(node.right, ast.Constant, name)
                self.assertIn(node.right.value, range(65), name)
            if isinstance(node, ast.Compare) and isinstance(node.ops[0], (ast.Is, ast.IsNot)):
                self.assertIn(node.comparators[0].value, (None, True, False), name)

    def test_no_module_imports_itself_by_way_of_others(self):
        needs = {}
        for name, node in nodes():
            needs.setdefault(name, set())
            if isinstance(node, ast.ImportFrom):
                needs[name].add(node.module.partition(".")[2] + ".py")
        while needs:
            free = [name for name in needs if not needs[name] & set(needs)]
            self.assertTrue(free, needs)
            for name in free:
                del needs[name]


if __name__ == "__main__":
    unittest.main()
