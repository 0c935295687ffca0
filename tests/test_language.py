"""Those rules of the language that are quickly checked; the others are read by people."""

import ast
import builtins
import re
import unittest
from pathlib import Path

PACKAGE = Path(__file__).resolve().parent.parent / "foreaft"

BUILTINS = (
    "len range enumerate zip min max sum abs sorted reversed int str bool list tuple dict set isinstance ord repr any"
    " all divmod map iter next super type Exception ValueError TypeError KeyError IndexError LookupError"
    " ZeroDivisionError StopIteration property staticmethod classmethod NotImplemented print"
).split()
METHODS = (
    "append clear copy count endswith extend find get index insert isalnum isalpha isdigit islower isspace isupper"
    " items join keys ljust lower lstrip partition pop remove replace reverse rfind rjust rpartition rsplit rstrip"
    " setdefault split splitlines startswith strip update upper values zfill bit_length add discard __init__"
    " appendleft popleft"
).split()
LIBRARY = {
    "heapq": "heappush heappop heapify heapreplace heappushpop".split(),
    "math": "gcd lcm isqrt comb perm factorial".split(),
    "itertools": "product combinations permutations chain accumulate pairwise islice zip_longest".split(),
    "collections": "defaultdict deque".split(),
}
BARRED_NAMES = (
    "register mro elements open input law version_info with_traceback add_note breakpoint builtins compile delattr dir"
    " eval exec exit gc globals help id importlib locals os quit vars"
).split()
BARRED_NODES = (
    ast.AsyncFunctionDef, ast.AsyncFor, ast.AsyncWith, ast.Await, ast.Div, ast.MatMult, ast.Global, ast.Import,
)
CHANGING = "append clear extend insert pop remove reverse setdefault update sort add discard".split()


def files():
    return sorted(PACKAGE.rglob("*.py"))


def text_of(path):
    return path.read_text(encoding="utf-8")


def nodes():
    for path in files():
        for node in ast.walk(ast.parse(text_of(path))):
            yield path, node


def bound_names(function):
    names = [argument.arg for argument in ast.walk(function) if isinstance(argument, ast.arg)]
    for node in ast.walk(function):
        if isinstance(node, ast.Name) and isinstance(node.ctx, ast.Store):
            names.append(node.id)
    return names


class TestLanguage(unittest.TestCase):
    def test_files(self):
        for path in PACKAGE.rglob("*"):
            if path.is_dir() or path.suffix == ".pyc":
                continue
            self.assertRegex(path.name, r"^[a-z0-9_]+\.py$")

    def test_lines(self):
        for path in files():
            text = text_of(path)
            self.assertLessEqual(len(text.splitlines()), 399, path)
            self.assertTrue(all(letter == "\n" or " " <= letter <= "~" for letter in text), path)
            for line in text.splitlines():
                self.assertLessEqual(len(line), 120, (path, line))

    def test_functions_are_small(self):
        for path, node in nodes():
            if isinstance(node, ast.FunctionDef):
                self.assertLessEqual(node.end_lineno - node.lineno + 1, 40, (path, node.name))

    def test_module_level(self):
        allowed = (ast.Expr, ast.ImportFrom, ast.FunctionDef, ast.ClassDef, ast.Assign)
        for path in files():
            for row in ast.parse(text_of(path)).body:
                self.assertIsInstance(row, allowed, path)
                if isinstance(row, ast.Expr):
                    self.assertIsInstance(row.value, ast.Constant, path)

    def test_imports(self):
        for path in files():
            tree = ast.parse(text_of(path))
            at_top = True
            for row in tree.body:
                at_top = at_top and isinstance(row, (ast.Expr, ast.ImportFrom))
                self.assertEqual(isinstance(row, ast.ImportFrom), at_top and not isinstance(row, ast.Expr), path)
            for node in ast.walk(tree):
                if isinstance(node, ast.ImportFrom):
                    self.assertIn(node, tree.body, path)
                    self.check_import(path, node)

    def check_import(self, path, node):
        self.assertEqual(node.level, 0, path)
        for alias in node.names:
            self.assertIsNone(alias.asname, path)
            if node.module in LIBRARY:
                self.assertIn(alias.name, LIBRARY[node.module], path)
                continue
            self.assertTrue(node.module.startswith("foreaft."), (path, node.module))
            other = PACKAGE / (node.module.partition(".")[2].replace(".", "/") + ".py")
            defined = [row.name for row in ast.parse(text_of(other)).body
                       if isinstance(row, (ast.FunctionDef, ast.ClassDef))]
            defined += [row.targets[0].id for row in ast.parse(text_of(other)).body if isinstance(row, ast.Assign)]
            self.assertIn(alias.name, defined, path)

    def test_no_circle_of_imports(self):
        needs = {}
        for path in files():
            needs[path.stem] = [
                node.module.partition(".")[2] for node in ast.walk(ast.parse(text_of(path)))
                if isinstance(node, ast.ImportFrom) and node.module.startswith("foreaft.")
            ]
        free = []
        while len(free) < len(needs):
            more = [name for name in needs if name not in free and all(need in free for need in needs[name])]
            self.assertTrue(more, "files import from each other")
            free += more

    def test_names(self):
        for path, node in nodes():
            self.assertNotIsInstance(node, BARRED_NODES, path)
            if isinstance(node, ast.Name):
                self.assertNotIn(node.id, BARRED_NAMES, path)
                if isinstance(node.ctx, ast.Store):
                    self.assertFalse(hasattr(builtins, node.id), (path, node.id))
                elif hasattr(builtins, node.id):
                    self.assertIn(node.id, BUILTINS, path)
            if isinstance(node, ast.arg):
                self.assertFalse(hasattr(builtins, node.arg) or node.arg in BARRED_NAMES, (path, node.arg))
            if isinstance(node, ast.FunctionDef):
                self.assertNotIn(node.name, BARRED_NAMES, path)

    def test_no_local_name_of_an_import_or_class(self):
        for path in files():
            tree = ast.parse(text_of(path))
            taken = [alias.name for row in tree.body if isinstance(row, ast.ImportFrom) for alias in row.names]
            taken += [row.name for row in tree.body if isinstance(row, ast.ClassDef)]
            for node in ast.walk(tree):
                if isinstance(node, ast.FunctionDef):
                    for name in bound_names(node):
                        self.assertNotIn(name, taken, (path, node.name))

    def test_methods(self):
        own = [node.name for _, node in nodes() if isinstance(node, ast.FunctionDef)]
        for path, node in nodes():
            if isinstance(node, ast.Call) and isinstance(node.func, ast.Attribute):
                self.assertIn(node.func.attr, METHODS + own, path)

    def test_attributes_are_assigned(self):
        stored = [node.attr for _, node in nodes()
                  if isinstance(node, ast.Attribute) and isinstance(node.ctx, ast.Store)]
        own = [node.name for _, node in nodes() if isinstance(node, ast.FunctionDef)]
        for path, node in nodes():
            if isinstance(node, ast.Attribute):
                self.assertIn(node.attr, METHODS + own + stored, path)

    def test_values(self):
        for path, node in nodes():
            if isinstance(node, ast.Constant):
                self.assertNotIsInstance(node.value, (float, complex), path)
                if isinstance(node.value, str):
                    self.assertNotIn("%", node.value, path)
            if isinstance(node, (ast.FunctionDef, ast.ClassDef)):
                for decorator in node.decorator_list:
                    self.assertIn(ast.unparse(decorator).partition(".")[0], BUILTINS + [node.name], path)

    def test_barred_words(self):
        words = re.compile(r"\b(typing|enum|dataclass|namedtuple|abstractmethod|chr)\b")
        for path in files():
            self.assertIsNone(words.search(text_of(path)), path)

    def test_is(self):
        for path, node in nodes():
            if isinstance(node, ast.Compare) and isinstance(node.ops[0], (ast.Is, ast.IsNot)):
                left, right = ast.unparse(node.left), ast.unparse(node.comparators[0])
                self.assertTrue(left.startswith("type(") or right in ("None", "True", "False"), (path, left, right))

    def test_loops_do_not_change_what_they_go_over(self):
        for path, node in nodes():
            if isinstance(node, ast.For):
                over = [name.id for name in ast.walk(node.iter) if isinstance(name, ast.Name)]
                for inner in [part for row in node.body for part in ast.walk(row)]:
                    self.check_unchanged(path, inner, over)

    def check_unchanged(self, path, node, over):
        if isinstance(node, ast.Call) and isinstance(node.func, ast.Attribute) and node.func.attr in CHANGING:
            self.assertNotIn(ast.unparse(node.func.value), over, path)
        if isinstance(node, ast.Subscript) and not isinstance(node.ctx, ast.Load):
            self.assertNotIn(ast.unparse(node.value), over, path)


if __name__ == "__main__":
    unittest.main()
