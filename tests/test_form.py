"""The form that every file of the package keeps, as far as a short test can see it."""

import ast
import builtins
import pathlib
import unittest

PACKAGE = pathlib.Path(__file__).resolve().parent.parent / "restlots"

LIBRARY = {"heapq": {"heappush", "heappop", "heapify", "heapreplace", "heappushpop"},
           "math": {"gcd", "lcm", "isqrt", "comb", "perm", "factorial"},
           "itertools": {"product", "combinations", "permutations", "chain", "accumulate", "pairwise", "islice",
                         "zip_longest"},
           "collections": {"defaultdict"}}

BUILTINS = set("""len range enumerate zip min max sum abs sorted reversed int str bool list tuple dict set isinstance
    ord repr any all divmod pow map iter next super property ValueError KeyError ZeroDivisionError""".split())

# What the document's interface lists.
INTERFACE = {
    "errors": """RestError BadNumber BadStretch BadModulus BadPlace BadRests TooGreat TooMany Nothing BadBars BadModuli
        BadSeen BadLine""",
    "sieves": "Sieve fits broken rests_of share",
    "stretches": "count numbered next_one last_one listed nearest_to steps longest_gap longest_run",
    "rows": "at_distance longest_row counts_by",
    "lots": "needless smallest_kept idle_rests rests tight without narrowed sure_rest greatest_sure",
    "barring": "smallest_barring freeing paper shows",
    "sides": "both as_one within alike first_unlike distance",
    "reckoning": "sums products split moved taken_from stretched shared",
    "told": "many_lots sure_rests",
    "desks": "Desk",
    "texts": "write read"}


def package_files():
    return sorted(PACKAGE.rglob("*.py"))


def nodes(path):
    return list(ast.walk(ast.parse(path.read_text("utf-8"))))


def is_float(node):
    return isinstance(node, ast.Div) or isinstance(node, ast.Constant) and isinstance(node.value, float)


class FormTest(unittest.TestCase):

    def test_the_folder_holds_nothing_else(self):
        self.assertTrue((PACKAGE / "__init__.py").is_file())
        for path in PACKAGE.rglob("*"):
            if "__pycache__" not in path.parts:
                self.assertEqual(path.suffix, ".py", path)

    def test_characters_and_sizes(self):
        for path in package_files():
            text = path.read_text("utf-8")
            self.assertEqual([one for one in text if one != "\n" and not " " <= one <= "~"], [], path)
            self.assertLessEqual(len(text.split("\n")), 399, path)
            self.assertLessEqual(max(len(line) for line in text.split("\n")), 120, path)

    def test_functions_are_short(self):
        for path in package_files():
            for node in nodes(path):
                if isinstance(node, ast.FunctionDef):
                    self.assertLessEqual(node.end_lineno - node.lineno + 1, 40, (path, node.name))

    def test_imports_are_of_the_package_or_allowed(self):
        for path in package_files():
            for node in nodes(path):
                self.assertNotIsInstance(node, ast.Import, path)
                if isinstance(node, ast.ImportFrom) and not node.module.startswith("restlots."):
                    self.assertLessEqual({one.name for one in node.names}, LIBRARY[node.module], path)

    def test_builtins_are_allowed(self):
        for path in package_files():
            for node in nodes(path):
                if isinstance(node, ast.Name) and hasattr(builtins, node.id):
                    self.assertIn(node.id, BUILTINS, (path, node.lineno))

    def test_the_interface_stands_in_its_files(self):
        for name, listed in INTERFACE.items():
            body = ast.parse((PACKAGE / f"{name}.py").read_text("utf-8")).body
            defined = {node.name for node in body if isinstance(node, (ast.FunctionDef, ast.ClassDef))}
            self.assertLessEqual(set(listed.split()), defined, name)

    def test_no_local_name_is_that_of_an_import(self):
        for path in package_files():
            found = nodes(path)
            imported = {one.name for node in found if isinstance(node, ast.ImportFrom) for one in node.names}
            local = {node.id for node in found if isinstance(node, ast.Name) and isinstance(node.ctx, ast.Store)}
            local.update(node.arg for node in found if isinstance(node, ast.arg))
            self.assertEqual(imported & local, set(), path)

    def test_any_all_and_the_like_take_lists(self):
        for path in package_files():
            self.assertEqual([node.lineno for node in nodes(path) if isinstance(node, ast.GeneratorExp)], [], path)

    def test_no_floats(self):
        for path in package_files():
            self.assertEqual([node for node in nodes(path) if is_float(node)], [], path)


if __name__ == "__main__":
    unittest.main()
