"""Those rules of the program's language (LANGUAGE.md) that the text of a file shows."""

import ast
import builtins
import re
import unittest
from pathlib import Path

PACKAGE = Path(__file__).resolve().parent.parent / "finecloud"

LIBRARY = {
    "heapq": "heappush heappop heapify heapreplace heappushpop",
    "math": "gcd lcm isqrt comb perm factorial",
    "itertools": "product combinations permutations chain accumulate pairwise islice zip_longest",
    "collections": "defaultdict deque",
}

BUILTINS = set("""len range enumerate zip min max sum abs sorted reversed int str bool bytes list tuple dict set frozenset
    isinstance ord repr any all divmod map iter next Exception ValueError TypeError KeyError IndexError LookupError
    ZeroDivisionError ArithmeticError OverflowError RuntimeError NotImplementedError AttributeError StopIteration
    NotImplemented super""".split())

METHODS = set("""append clear copy count endswith extend find get index insert isalnum isalpha isdigit islower isspace
    isupper items join keys ljust lower lstrip partition pop remove replace reverse rfind rjust rpartition rsplit rstrip
    setdefault split splitlines startswith strip update upper values zfill bit_length add discard isascii""".split())

SPECIAL = {"__init__", "__eq__", "__repr__", "__str__", "__len__"}

NOWHERE = re.compile(r"\b(register|mro|elements|open|input|law|version_info|with_traceback|add_note|typing|enum|"
                     r"namedtuple|eval|exec|globals|locals|setattr|getattr|hasattr|_wall\w*)\b")


def files():
    return sorted(PACKAGE.rglob("*.py"))


def nodes(file, *kinds):
    return [node for node in ast.walk(ast.parse(file.read_text())) if isinstance(node, kinds)]


def assigned(file):
    """All names that are bound anywhere in a file."""
    names = {node.id for node in nodes(file, ast.Name) if not isinstance(node.ctx, ast.Load)}
    names |= {node.arg for node in nodes(file, ast.arg)}
    names |= {node.name for node in nodes(file, ast.FunctionDef, ast.ClassDef)}
    return names | {alias.name for node in nodes(file, ast.ImportFrom) for alias in node.names}


def defined(file):
    """The functions, classes and plain values of a file's module level."""
    body = ast.parse(file.read_text()).body
    names = {node.name for node in body if isinstance(node, (ast.FunctionDef, ast.ClassDef))}
    return names | {target.id for node in body if isinstance(node, ast.Assign) for target in node.targets}


class Language(unittest.TestCase):
    def test_the_folder_holds_plain_files_only(self):
        for path in PACKAGE.rglob("*"):
            if "__pycache__" not in path.parts:
                self.assertRegex(path.name, r"^[a-z][a-z0-9_]*\.py$|^__init__\.py$")

    def test_sizes_and_signs(self):
        for file in files():
            text = file.read_text()
            self.assertRegex(text, r"\A[ -~\n]*\Z", file)
            self.assertLessEqual(len(text.split("\n")), 399, file)
            self.assertLessEqual(max(len(line) for line in text.split("\n")), 120, file)
            for node in nodes(file, ast.FunctionDef):
                self.assertLessEqual(node.end_lineno - node.lineno + 1, 40, (file, node.name))

    def test_module_level(self):
        kinds = (ast.Expr, ast.ImportFrom, ast.FunctionDef, ast.ClassDef, ast.Assign)
        for file in files():
            for node in ast.parse(file.read_text()).body:
                self.assertIsInstance(node, kinds, file)

    def test_imports(self):
        for file in files():
            self.assertEqual(nodes(file, ast.Import), [])
            for node in nodes(file, ast.ImportFrom):
                self.assertEqual(node.level, 0)
                names = {alias.name for alias in node.names}
                self.assertEqual({alias.asname for alias in node.names}, {None})
                if node.module in LIBRARY:
                    self.assertLessEqual(names, set(LIBRARY[node.module].split()))
                else:
                    self.assertRegex(node.module, r"^finecloud\.[a-z]\w*$")
                    self.assertLessEqual(names, defined(PACKAGE / (node.module.split(".")[1] + ".py")))

    def test_statements_and_expressions(self):
        barred = (ast.Global, ast.AsyncFunctionDef, ast.Await, ast.GeneratorExp, ast.Yield, ast.YieldFrom, ast.Lambda,
                  ast.Div, ast.Pow, ast.MatMult, ast.AnnAssign)
        for file in files():
            self.assertEqual([(file, node) for node in nodes(file, *barred)], [])
            for node in nodes(file, ast.FunctionDef, ast.ClassDef):
                self.assertEqual(node.decorator_list, [], file)
            for node in nodes(file, ast.Constant):
                self.assertNotIsInstance(node.value, (float, complex, bytes), file)

    def test_stars_stand_in_zip_only(self):
        for file in files():
            zips = [node for node in nodes(file, ast.Call) if isinstance(node.func, ast.Name) and node.func.id == "zip"]
            self.assertEqual(len(nodes(file, ast.Starred)),
                             sum(isinstance(part, ast.Starred) for node in zips for part in node.args), file)

    def test_names(self):
        own = set()
        for file in files():
            own |= {node.name for node in nodes(file, ast.FunctionDef, ast.ClassDef)}
        for file in files():
            bound = assigned(file)
            self.assertEqual(bound & set(dir(builtins)), set(), file)
            self.assertEqual([name for name in bound if name.startswith("__") and name not in SPECIAL], [], file)
            used = {node.id for node in nodes(file, ast.Name)} - bound
            self.assertLessEqual(used, BUILTINS, file)
            called = {node.func.attr for node in nodes(file, ast.Call) if isinstance(node.func, ast.Attribute)}
            self.assertLessEqual(called, METHODS | own, file)

    def test_words(self):
        for file in files():
            words = [node.id for node in nodes(file, ast.Name)] + [node.attr for node in nodes(file, ast.Attribute)]
            words += [node.value for node in nodes(file, ast.Constant) if isinstance(node.value, str)]
            words += list(assigned(file))
            docstrings = {ast.get_docstring(node, clean=False)
                          for node in nodes(file, ast.Module, ast.ClassDef, ast.FunctionDef)}
            for word in words:
                if word not in docstrings:
                    self.assertIsNone(NOWHERE.search(word), (file, word))
                    self.assertNotIn("%", word, file)

    def test_every_public_function_and_class_says_what_it_is(self):
        for file in files():
            for node in nodes(file, ast.FunctionDef, ast.ClassDef, ast.Module):
                name = getattr(node, "name", "module")
                if not name.startswith("_"):
                    self.assertTrue(ast.get_docstring(node), (file, name))


if __name__ == "__main__":
    unittest.main()
