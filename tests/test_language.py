"""Those rules of the language of the package that a look at its syntax can tell."""

import ast
import builtins
import io
import pathlib
import re
import tokenize
import unittest

PACKAGE = pathlib.Path(__file__).resolve().parent.parent / "authsync"
BUILTINS = """len range enumerate zip min max sum abs sorted reversed int str bool list tuple dict set frozenset
isinstance ord repr any all divmod pow getattr hasattr setattr map iter next super Exception ValueError TypeError
KeyError IndexError LookupError ZeroDivisionError ArithmeticError OverflowError RuntimeError NotImplementedError
AttributeError StopIteration NotImplemented""".split()
METHODS = """append clear copy count endswith extend find get index insert isalnum isalpha isdigit islower isspace
isupper items join keys ljust lower lstrip partition pop remove replace reverse rfind rjust rpartition rsplit rstrip
setdefault split splitlines startswith strip update upper values zfill bit_length add discard""".split()
LIBRARY = {"heapq", "math", "itertools", "collections"}
BARRED = """typing typing_extensions enum Enum IntEnum StrEnum Flag IntFlag Generic Protocol ABC ABCMeta namedtuple
NamedTuple TypedDict TYPE_CHECKING abstractmethod register mro elements open input law version_info with_traceback
add_note global async eval exec globals locals vars dir id type print""".split()
STATEMENTS = (ast.ImportFrom, ast.FunctionDef, ast.ClassDef, ast.Assign, ast.Expr)
BANNED_NODES = (ast.Import, ast.Global, ast.AsyncFunctionDef, ast.AsyncFor, ast.Await, ast.Div)


class LanguageTest(unittest.TestCase):
    def setUp(self):
        self.texts = {path.name: path.read_text() for path in sorted(PACKAGE.glob("*.py"))}
        self.trees = {name: ast.parse(text) for name, text in self.texts.items()}

    def nodes(self, *kinds):
        return [(name, node) for name, tree in self.trees.items() for node in ast.walk(tree) if isinstance(node, kinds)]

    def test_sizes_and_characters(self):
        for name, text in self.texts.items():
            self.assertLessEqual(text.count("\n"), 399, name)
            self.assertLessEqual(max(len(line) for line in text.split("\n")), 120, name)
            self.assertTrue(all(sign == "\n" or " " <= sign <= "~" for sign in text), name)
        for name, node in self.nodes(ast.FunctionDef):
            self.assertLessEqual(node.end_lineno - node.lineno + 1, 40, (name, node.name))

    def test_statements(self):
        self.assertEqual(self.nodes(*BANNED_NODES), [])
        for name, tree in self.trees.items():
            for index, node in enumerate(tree.body):
                self.assertIsInstance(node, STATEMENTS, name)
                self.assertTrue(not isinstance(node, ast.Expr) or index == 0, name)
                self.assertFalse(isinstance(node, ast.ImportFrom) and node.level, name)
        for name, node in self.nodes(ast.FunctionDef, ast.ClassDef):
            self.assertEqual(node.decorator_list, [], (name, node.name))

    def test_imports(self):
        for name, node in self.nodes(ast.ImportFrom):
            top, _, module = node.module.partition(".")
            self.assertTrue(top == "authsync" or top in LIBRARY, name)
            self.assertTrue(all(alias.asname is None and alias.name != "*" for alias in node.names), name)
            if top == "authsync":
                bound = {part.name for part in self.trees[module + ".py"].body if hasattr(part, "name")}
                bound |= {part.targets[0].id for part in self.trees[module + ".py"].body if isinstance(part, ast.Assign)}
                self.assertLessEqual({alias.name for alias in node.names}, bound, name)

    def test_imports_do_not_go_round(self):
        needs = {name[:-3]: set() for name in self.trees}
        for name, node in self.nodes(ast.ImportFrom):
            needs[name[:-3]].add(node.module.partition(".")[2])
        while needs:
            free = [name for name, needed in needs.items() if not needed & set(needs)]
            self.assertNotEqual(free, [])
            needs = {name: needed for name, needed in needs.items() if name not in free}

    def test_builtins_and_names(self):
        known = set(dir(builtins))
        for name, node in self.nodes(ast.Name):
            if isinstance(node.ctx, ast.Load):
                self.assertFalse(node.id in known and node.id not in BUILTINS, (name, node.id))
            else:
                self.assertNotIn(node.id, known, name)
        for name, node in self.nodes(ast.arg):
            self.assertNotIn(node.arg, known, name)
        for name, node in self.nodes(ast.FunctionDef, ast.ClassDef):
            self.assertNotIn(node.name, known, name)

    def test_methods(self):
        own = {node.name for _, node in self.nodes(ast.FunctionDef)}
        for name, node in self.nodes(ast.Call):
            if isinstance(node.func, ast.Attribute):
                self.assertIn(node.func.attr, [*METHODS, *own], name)

    def test_methods_and_attributes_of_a_class_have_different_names(self):
        for _, node in self.nodes(ast.ClassDef):
            methods = {part.name for part in node.body if isinstance(part, ast.FunctionDef)}
            stored = [part for part in ast.walk(node) if isinstance(part, ast.Attribute)]
            stored = {part.attr for part in stored if isinstance(part.ctx, ast.Store)}
            self.assertEqual(methods & stored, set(), node.name)

    def test_words_and_strings(self):
        for name, text in self.texts.items():
            for token in tokenize.generate_tokens(io.StringIO(text).readline):
                if token.type == tokenize.NAME:
                    self.assertNotIn(token.string, BARRED, name)
                    self.assertFalse(token.string.startswith("__") and token.string != "__init__", name)
                elif token.type != tokenize.COMMENT:
                    self.assertNotIn("%", token.string, name)
                    self.assertNotRegex(token.string, r"\\[^nt\\\"']", name)
        for name, node in self.nodes(ast.Constant):
            self.assertNotIsInstance(node.value, float, name)
            self.assertFalse(isinstance(node.value, str) and re.search(r"\._+$|^__.*__$", node.value), name)

    def test_errors_are_made_where_they_are_raised(self):
        for name, node in self.nodes(ast.Raise):
            self.assertTrue(node.exc is None or isinstance(node.exc, ast.Call), name)
