"""Some of the rules that the files of the package keep to: those that a short test can see."""

import ast
import pathlib
import re
import unittest

PACKAGE = pathlib.Path(__file__).resolve().parent.parent / "fuelshare"
BARRED_NODES = (
    ast.AsyncFor, ast.AsyncFunctionDef, ast.AsyncWith, ast.Await, ast.Global, ast.Import, ast.Div, ast.NamedExpr,
    ast.GeneratorExp, ast.Set, ast.SetComp,
)
BUILTINS = """
len range enumerate zip min max sum abs sorted reversed int str bool list tuple dict isinstance ord repr any all
divmod super ValueError KeyError
""".split()


def files():
    """Returns the files of the package with their texts and trees."""
    found = []
    for path in sorted(PACKAGE.glob("*.py")):
        text = path.read_text(encoding="utf-8")
        found.append((path, text, ast.parse(text)))
    return found


def assigned_names(tree):
    """Returns all names that a file gives to something."""
    names = []
    for node in ast.walk(tree):
        if isinstance(node, (ast.FunctionDef, ast.ClassDef)):
            names.append(node.name)
        elif isinstance(node, ast.arg):
            names.append(node.arg)
        elif isinstance(node, ast.Name) and isinstance(node.ctx, ast.Store):
            names.append(node.id)
        elif isinstance(node, (ast.MatchAs, ast.MatchStar)) and node.name:
            names.append(node.name)
        elif isinstance(node, ast.alias):
            names.append(node.asname or node.name)
    return names


class Language(unittest.TestCase):
    def test_the_package_holds_only_its_files(self):
        names = [path.name for path in PACKAGE.iterdir() if path.name != "__pycache__"]
        self.assertIn("__init__.py", names)
        for name in names:
            self.assertRegex(name, r"^[a-z_]+\.py$")

    def test_sizes(self):
        for path, text, tree in files():
            self.assertLess(len(text.split("\n")), 400, path.name)
            self.assertLessEqual(max(len(line) for line in text.split("\n")), 120, path.name)
            for node in ast.walk(tree):
                if isinstance(node, ast.FunctionDef):
                    self.assertLessEqual(node.end_lineno - node.lineno + 1, 40, f"{path.name}: {node.name}")

    def test_characters(self):
        for path, text, tree in files():
            self.assertRegex(text, r"\A[ -~\n]*\Z", path.name)
            for node in ast.walk(tree):
                if isinstance(node, ast.Constant) and isinstance(node.value, str):
                    self.assertNotIn("%", node.value, path.name)

    def test_imports(self):
        for path, _, tree in files():
            for node in ast.walk(tree):
                if isinstance(node, ast.ImportFrom):
                    self.assertEqual(node.level, 0, path.name)
                    self.assertRegex(node.module, r"^fuelshare\.[a-z]+$", path.name)

    def test_imports_go_in_one_direction(self):
        needs = {}
        for path, _, tree in files():
            modules = [node.module.split(".")[1] for node in ast.walk(tree) if isinstance(node, ast.ImportFrom)]
            needs[path.stem] = set(modules)
        while needs:
            free = [name for name in needs if not needs[name]]
            self.assertNotEqual(free, [], f"these import each other: {sorted(needs)}")
            needs = {name: needs[name] - set(free) for name in needs if name not in free}

    def test_imports_name_the_file_that_defines_the_name(self):
        for path, _, tree in files():
            for node in ast.walk(tree):
                if isinstance(node, ast.ImportFrom):
                    text = (PACKAGE / (node.module.split(".")[1] + ".py")).read_text(encoding="utf-8")
                    for alias in node.names:
                        pattern = rf"^(def|class) {alias.name}\b|^{alias.name} = "
                        self.assertIsNotNone(re.search(pattern, text, re.M), f"{path.name}: {alias.name}")

    def test_one_binding_for_each_name(self):
        for path, _, tree in files():
            outer = []
            for node in tree.body:
                outer += assigned_names(ast.Module([node], []))[:1] if not isinstance(node, ast.ImportFrom) else [
                    alias.name for alias in node.names]
            self.assertEqual(len(outer), len(set(outer)), path.name)
            functions = [node for node in ast.walk(tree) if isinstance(node, ast.FunctionDef)]
            for function in functions:
                inner = set(assigned_names(function)[1:])
                self.assertEqual(inner & set(outer), set(), f"{path.name}: {function.name}")

    def test_imported_names_are_used(self):
        for path, text, tree in files():
            for node in ast.walk(tree):
                if isinstance(node, ast.ImportFrom):
                    for alias in node.names:
                        self.assertGreater(len(re.findall(rf"\b{alias.name}\b", text)), 1, f"{path.name}: {alias.name}")

    def test_statements_and_expressions(self):
        for path, _, tree in files():
            for node in ast.walk(tree):
                self.assertNotIsInstance(node, BARRED_NODES, f"{path.name}: {ast.dump(node)[:80]}")

    def test_names_of_builtins(self):
        barred = set(dir(__builtins__) if not isinstance(__builtins__, dict) else __builtins__) - {"__init__"}
        for path, _, tree in files():
            given = set(assigned_names(tree))
            self.assertEqual(given & barred, set(), path.name)
            read = {node.id for node in ast.walk(tree) if isinstance(node, ast.Name)}
            self.assertEqual((read & barred) - set(BUILTINS), set(), path.name)

    def test_barred_words(self):
        pattern = r"\b(type|typing|enum|Enum|Flag|Generic|Protocol|ABC|namedtuple)\b|dataclass|overload"
        for path, text, _ in files():
            self.assertIsNone(re.search(pattern, text), path.name)


if __name__ == "__main__":
    unittest.main()
