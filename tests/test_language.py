"""The rules of ../shared/LANGUAGE.md that can be seen in the files one by one.

The numbers in the names of the tests are those of the rules. A rule that
needs a reader is not looked at here.
"""

import ast
import builtins
import pathlib
import re
import unittest

PACKAGE = pathlib.Path(__file__).resolve().parent.parent / "carryclaim"

LIBRARY = ("heapq", "math", "itertools", "collections", "__future__")
BUILTINS = (
    "len range enumerate zip min max sum abs sorted reversed int str bool bytes list tuple dict set"
    " frozenset isinstance ord repr any all divmod pow getattr hasattr setattr map iter next super"
    " property staticmethod classmethod object float Exception ValueError TypeError KeyError"
    " IndexError LookupError ZeroDivisionError ArithmeticError OverflowError RuntimeError"
    " NotImplementedError AttributeError StopIteration NotImplemented"
).split()
BARRED_WORDS = (
    "type|typing|typing_extensions|enum|Enum|IntEnum|StrEnum|Flag|IntFlag|Generic|Protocol|ABC"
    "|ABCMeta|namedtuple|NamedTuple|TypedDict|TYPE_CHECKING|abstractmethod|register|mro|elements"
    "|open|input|law|version_info|with_traceback|add_note"
)
BARRED_STATEMENTS = (
    ast.Global, ast.AsyncFunctionDef, ast.AsyncFor, ast.AsyncWith, ast.Await, ast.Import,
)
FUNCTIONS = (ast.FunctionDef, ast.AsyncFunctionDef)
INTERFACE = {
    "errors.py": (
        "ClaimError SyntaxProblem ProgramProblem PaperProblem EditProblem Clash NoVersion"
        " JournalProblem Full NotMergeable NotEdited"
    ).split(),
    "lexer.py": ["tokens"],
    "parser.py": ["parse"],
    "writer.py": ["write"],
    "programs.py": ["check_program", "local_names", "variables", "parameters"],
    "places.py": ["places", "statement_at", "first_place", "next_place", "block_place"],
    "machine.py": ["run", "trace"],
    "ranges.py": ["has", "within", "join", "at_most", "at_least", "other_than", "widen"],
    "arithmetic.py": ["combine"],
    "states.py": ["state_within", "state_join", "value_range", "condition_kinds", "assume"],
    "papers.py": ["state_at", "blank_paper", "write_paper", "read_paper"],
    "judging.py": ["ways", "judge", "claims"],
    "solving.py": ["marks", "repair", "solve"],
    "edits.py": ["apply", "undo", "moved_place"],
    "carrying.py": ["carry", "touched", "rejudge"],
    "merging.py": ["rebase", "both"],
    "workshop.py": ["Workshop", "replay"],
}
WORKSHOP_METHODS = (
    "begin versions program paper origin edit offer merge try_inputs witnesses report changes journal"
).split()


def bound_names(tree):
    """All names that a file gives a meaning to."""
    for node in ast.walk(tree):
        if isinstance(node, (ast.FunctionDef, ast.ClassDef)):
            yield node.name
        elif isinstance(node, ast.arg):
            yield node.arg
        elif isinstance(node, ast.Name) and not isinstance(node.ctx, ast.Load):
            yield node.id


class Language(unittest.TestCase):
    @classmethod
    def setUpClass(cls):
        cls.texts = {path.name: path.read_text("ascii") for path in sorted(PACKAGE.glob("*.py"))}
        cls.trees = {name: ast.parse(text) for name, text in cls.texts.items()}

    def nodes(self, *kinds):
        for name, tree in self.trees.items():
            for node in ast.walk(tree):
                if isinstance(node, kinds):
                    yield f"{name}:{getattr(node, 'lineno', 0)}", node

    def test_1_only_python_files_with_plain_names(self):
        names = [path.name for path in PACKAGE.iterdir() if path.name != "__pycache__"]
        for name in names:
            self.assertRegex(name, r"\A[a-z0-9_]+\.py\Z")
        self.assertIn("__init__.py", names)

    def test_2_and_16_imports(self):
        for where, node in self.nodes(ast.ImportFrom):
            module = node.module or ""
            self.assertEqual(node.level, 0, where)
            self.assertTrue(module.startswith("carryclaim.") or module in LIBRARY, where)
            if module.startswith("carryclaim."):
                defined = list(bound_names(self.trees[module.split(".")[1] + ".py"]))
                for alias in node.names:
                    self.assertIn(alias.name, defined, where)

    def test_5_decorators(self):
        for where, node in self.nodes(ast.ClassDef, *FUNCTIONS):
            for decorator in node.decorator_list:
                self.assertIn(
                    ast.unparse(decorator).split(".")[-1],
                    ("property", "setter", "staticmethod", "classmethod"),
                    where,
                )

    def test_6_statements(self):
        for where, _ in self.nodes(*BARRED_STATEMENTS):
            self.fail(where)

    def test_7_no_floats_and_no_true_division(self):
        for where, node in self.nodes(ast.Constant):
            self.assertNotIsInstance(node.value, (float, complex), where)
        for where, _ in self.nodes(ast.Div):
            self.fail(where)

    def test_8_builtins(self):
        for where, node in self.nodes(ast.Name):
            if hasattr(builtins, node.id):
                self.assertIn(node.id, BUILTINS, where)

    def test_10_sizes(self):
        for name, text in self.texts.items():
            lines = text.split("\n")
            self.assertLessEqual(len(lines), 400, name)
            self.assertLessEqual(max(len(line) for line in lines), 120, name)
        for where, node in self.nodes(*FUNCTIONS):
            self.assertLessEqual(node.end_lineno - node.lineno + 1, 40, where)

    def test_14_characters(self):
        for name, text in self.texts.items():
            self.assertRegex(text, r"\A[\n -~]*\Z", name)

    def test_15_no_name_of_a_builtin_is_bound(self):
        for name, tree in self.trees.items():
            for bound in bound_names(tree):
                if bound.startswith("__"):
                    continue
                self.assertFalse(hasattr(builtins, bound), f"{name}: {bound}")

    def test_15_module_level_names_are_bound_once(self):
        for name, tree in self.trees.items():
            bound = []
            for node in tree.body:
                if isinstance(node, (ast.FunctionDef, ast.ClassDef)):
                    bound.append(node.name)
                elif isinstance(node, ast.Assign):
                    bound.extend(target.id for target in node.targets)
                elif isinstance(node, ast.ImportFrom):
                    bound.extend(alias.name for alias in node.names)
            self.assertEqual(len(bound), len(set(bound)), name)

    def test_16_the_interface_is_defined_in_its_files(self):
        for name, wanted in INTERFACE.items():
            defined = [getattr(node, "name", None) for node in self.trees[name].body]
            for word in wanted:
                self.assertIn(word, defined, name)

    def test_5_the_methods_of_the_interface_stand_in_their_class(self):
        for node in self.trees["workshop.py"].body:
            if isinstance(node, ast.ClassDef) and node.name == "Workshop":
                methods = [method.name for method in node.body if isinstance(method, ast.FunctionDef)]
                for word in WORKSHOP_METHODS:
                    self.assertIn(word, methods)

    def test_15_no_local_name_is_that_of_an_import_or_a_class(self):
        for name, tree in self.trees.items():
            top = [alias.name for node in tree.body if isinstance(node, ast.ImportFrom) for alias in node.names]
            top += [node.name for node in tree.body if isinstance(node, ast.ClassDef)]
            for function in ast.walk(tree):
                if isinstance(function, FUNCTIONS):
                    own = [bound for part in function.body for bound in bound_names(part)]
                    own += [argument.arg for argument in function.args.args]
                    for bound in own:
                        self.assertNotIn(bound, top, name)

    def test_18_no_name_is_a_method_and_an_attribute_of_one_class(self):
        for where, node in self.nodes(ast.ClassDef):
            methods = [part.name for part in node.body if isinstance(part, ast.FunctionDef)]
            for part in ast.walk(node):
                if isinstance(part, ast.Attribute) and isinstance(part.ctx, ast.Store):
                    self.assertNotIn(part.attr, methods, where)

    def test_17_barred_words(self):
        for where, node in self.nodes(ast.Name, ast.Attribute, ast.arg, ast.FunctionDef, ast.ClassDef):
            for field in ("id", "attr", "arg", "name"):
                word = getattr(node, field, "")
                self.assertIsNone(re.fullmatch(BARRED_WORDS, word), f"{where}: {word}")

    def test_27_strings(self):
        for where, node in self.nodes(ast.Constant):
            if isinstance(node.value, str):
                self.assertNotIn("%", node.value, where)


if __name__ == "__main__":
    unittest.main()
