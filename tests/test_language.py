"""What of the rules of the language can be seen plainly: sizes, signs, imports, names and statements."""

import ast
import builtins
import os
import unittest

PACKAGE = os.path.join(os.path.dirname(os.path.dirname(os.path.abspath(__file__))), "nodetour")
BUILTINS = set(
    "len range enumerate zip min max sum abs sorted reversed int str bool list tuple dict set isinstance ord repr any "
    "all divmod super Exception ValueError TypeError KeyError IndexError".split())
METHODS = set(
    "append clear copy count endswith extend find get index insert isalnum isalpha isdigit islower isspace isupper "
    "items join keys ljust lower lstrip partition pop remove replace reverse rfind rjust rpartition rsplit rstrip "
    "setdefault split splitlines startswith strip update upper values zfill bit_length add discard __init__".split())
# A console, also that of doctest, puts what was told last into _.
PYTHONS = set(dir(builtins)) - {"_"}
BARRED = (ast.AsyncFunctionDef, ast.AsyncFor, ast.AsyncWith, ast.Global, ast.SetComp, ast.Div, ast.MatMult, ast.Import)
FORBIDDEN_NAMES = set(
    "register mro elements open input law version_info compile dir eval exec exit gc globals help id locals os quit "
    "setattr type vars hash next map round filter format iter object property".split())


def sources():
    """Return the list of pairs (name, text) of all files of the package."""
    found = []
    for folder, folders, files in os.walk(PACKAGE):
        folders[:] = [name for name in folders if name != "__pycache__"]
        for name in sorted(files):
            with open(os.path.join(folder, name), encoding="ascii") as file:
                found.append((name, file.read()))
    return found


def own_names(trees):
    """Return all names that the package defines or imports at module level, and its parameters."""
    names = set()
    for tree in trees:
        for node in ast.walk(tree):
            if isinstance(node, (ast.FunctionDef, ast.ClassDef)):
                names.add(node.name)
            elif isinstance(node, ast.arg):
                names.add(node.arg)
            elif isinstance(node, ast.Name) and isinstance(node.ctx, ast.Store):
                names.add(node.id)
    return names


class Language(unittest.TestCase):
    def setUp(self):
        self.files = sources()
        self.trees = [(name, ast.parse(text)) for name, text in self.files]

    def test_files_and_lines(self):
        for name, text in self.files:
            self.assertRegex(name, r"^[a-z_][a-z0-9_]*\.py$")
            self.assertLessEqual(len(text.splitlines()), 399, name)
            for line in text.splitlines():
                self.assertLessEqual(len(line), 120, f"{name}: {line}")
            self.assertTrue(all(" " <= sign <= "~" or sign == "\n" for sign in text), name)

    def test_functions(self):
        for name, tree in self.trees:
            for node in ast.walk(tree):
                if isinstance(node, ast.FunctionDef):
                    self.assertLessEqual(node.end_lineno - node.lineno + 1, 40, f"{name}: {node.name}")
                self.assertNotIsInstance(node, BARRED, name)
                if isinstance(node, ast.Constant):
                    self.assertNotIsInstance(node.value, (float, complex), name)

    def test_imports(self):
        for name, tree in self.trees:
            for node in ast.walk(tree):
                if isinstance(node, ast.ImportFrom):
                    self.assertIn(node, tree.body, name)
                    self.assertTrue(node.module.startswith("nodetour."), name)
                    self.assertTrue(all(one.asname is None and one.name != "*" for one in node.names), name)

    def test_each_import_is_used_and_not_shadowed(self):
        for name, tree in self.trees:
            imported = {one.name for node in tree.body if isinstance(node, ast.ImportFrom) for one in node.names}
            named = [node for node in ast.walk(tree) if isinstance(node, ast.Name)]
            self.assertEqual(imported - {node.id for node in named}, set(), name)
            bound = {node.id for node in named if isinstance(node.ctx, ast.Store)}
            bound |= {node.arg for node in ast.walk(tree) if isinstance(node, ast.arg)}
            self.assertEqual(imported & bound, set(), name)

    def test_no_two_files_import_from_each_other(self):
        needs = {name[:-3]: {node.module.split(".")[1] for node in tree.body if isinstance(node, ast.ImportFrom)}
                 for name, tree in self.trees}
        while needs:
            free = [name for name in needs if not needs[name] & set(needs)]
            self.assertNotEqual(free, [], "these import from each other")
            for name in free:
                del needs[name]

    def test_names(self):
        own = own_names([tree for _, tree in self.trees])
        self.assertEqual(own & (FORBIDDEN_NAMES | BUILTINS), set())
        for name, tree in self.trees:
            for node in ast.walk(tree):
                if isinstance(node, ast.Name) and node.id in PYTHONS:
                    self.assertIn(node.id, BUILTINS, name)
                if isinstance(node, ast.Call) and isinstance(node.func, ast.Attribute):
                    self.assertIn(node.func.attr, METHODS | own, name)


if __name__ == "__main__":
    unittest.main()
