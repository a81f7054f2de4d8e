"""The subset of Python in which the package is written, as far as a short look at each file can tell."""

import ast
import builtins
import unittest
from pathlib import Path

FOLDER = Path(__file__).resolve().parent.parent / "outofwishes"
FILES = sorted(FOLDER.glob("*.py"))
USED_BUILTINS = set(
    "len range enumerate zip min max sum abs sorted reversed int str bool bytes list tuple dict set isinstance ord repr"
    " any all divmod Exception ValueError".split()
)
FROM_LIBRARY = {"math": {"gcd", "lcm"}}
INTERFACE = {
    "terms": "is_term tidy added times term_at",
    "bodies": "is_body names_in holds",
    "wishes": "Wish System is_point",
    "texts": "read_wish text_fault written",
    "programtexts": "read_program program_fault program_text",
    "flats": "plain denied tight flat cases",
    "programs": "Program is_statement places statement_at known_at run steps trail most_by_text",
}
METHODS = {
    "Wish": "inputs outputs body does __eq__", "System": "names bodies __eq__", "Program": "inputs outputs statement __eq__",
}


def tree_of(path):
    return ast.parse(path.read_text(encoding="ascii"))


def bound_names(tree):
    for node in ast.walk(tree):
        if isinstance(node, (ast.FunctionDef, ast.ClassDef)):
            yield node.name
        elif isinstance(node, ast.arg):
            yield node.arg
        elif isinstance(node, ast.Name) and isinstance(node.ctx, ast.Store):
            yield node.id


class Language(unittest.TestCase):
    def test_only_plain_files(self):
        others = [path.name for path in FOLDER.iterdir() if path.suffix != ".py" and path.name != "__pycache__"]
        self.assertEqual(others, [])

    def test_size_and_characters(self):
        for path in FILES:
            text = path.read_text(encoding="utf-8")
            self.assertLessEqual(len(text.splitlines()), 399, path.name)
            self.assertTrue(all(" " <= sign <= "~" or sign == "\n" for sign in text), path.name)
            self.assertLessEqual(max(len(line) for line in text.splitlines()), 120, path.name)
            for node in ast.walk(tree_of(path)):
                if isinstance(node, ast.FunctionDef):
                    self.assertLessEqual(node.end_lineno - node.lineno + 1, 40, node.name)
                    self.assertEqual(node.decorator_list, [])

    def test_imports_without_circles(self):
        taken = {}
        for path in FILES:
            taken[path.stem] = []
            for node in ast.walk(tree_of(path)):
                self.assertNotIsInstance(node, ast.Import)
                if isinstance(node, ast.ImportFrom):
                    names = {one.name for one in node.names}
                    self.assertTrue(all(one.asname is None for one in node.names))
                    if node.module in FROM_LIBRARY:
                        self.assertLessEqual(names, FROM_LIBRARY[node.module])
                    else:
                        package, name = node.module.split(".")
                        self.assertEqual(package, "outofwishes")
                        taken[path.stem].append(name)
                        own = {one.name for one in tree_of(FOLDER / f"{name}.py").body if hasattr(one, "name")}
                        own |= {one.targets[0].id for one in tree_of(FOLDER / f"{name}.py").body if isinstance(one, ast.Assign)}
                        self.assertLessEqual(names, own)
        while taken:
            free = [name for name in taken if not [other for other in taken[name] if other in taken]]
            self.assertTrue(free, taken)
            for name in free:
                del taken[name]

    def test_names_and_builtins(self):
        for path in FILES:
            tree = tree_of(path)
            bound = set(bound_names(tree))
            self.assertEqual(sorted(name for name in bound if hasattr(builtins, name) and name[0] != "_"), [], path.name)
            for node in ast.walk(tree):
                if isinstance(node, ast.Name) and isinstance(node.ctx, ast.Load) and hasattr(builtins, node.id):
                    self.assertIn(node.id, USED_BUILTINS, path.name)

    def test_no_names_of_classes_or_imports_taken_again(self):
        for path in FILES:
            tree = tree_of(path)
            names = [one.name for node in tree.body if isinstance(node, ast.ImportFrom) for one in node.names]
            names += [node.name for node in tree.body if isinstance(node, ast.ClassDef)]
            bound = [name for name in bound_names(tree) if name in names]
            self.assertEqual(sorted(bound), sorted([node.name for node in tree.body if isinstance(node, ast.ClassDef)]))
            self.assertEqual(len(set(names)), len(names))

    def test_barred_forms(self):
        barred = (
            ast.GeneratorExp, ast.Lambda, ast.Global, ast.Nonlocal, ast.Yield, ast.YieldFrom, ast.Div, ast.Pow, ast.Starred,
            ast.AsyncFunctionDef, ast.NamedExpr, ast.Set, ast.Match, ast.With,
        )
        for path in FILES:
            for node in ast.walk(tree_of(path)):
                self.assertNotIsInstance(node, barred, (path.name, getattr(node, "lineno", 0)))
                if isinstance(node, ast.Constant):
                    self.assertNotIsInstance(node.value, float)
                    self.assertNotIn("%", str(node.value))
                if isinstance(node, ast.Compare) and isinstance(node.ops[0], (ast.Is, ast.IsNot)):
                    self.assertIn(ast.unparse(node.comparators[0]), ["None", "True", "False"])

    def test_interface_is_defined_where_it_is_listed(self):
        for stem, names in INTERFACE.items():
            own = {node.name: node for node in tree_of(FOLDER / f"{stem}.py").body if isinstance(node, (ast.FunctionDef, ast.ClassDef))}
            for name in names.split():
                self.assertIn(name, own)
                methods = [one.name for one in own[name].body if isinstance(one, ast.FunctionDef)]
                self.assertLessEqual(set(METHODS.get(name, "").split()), set(methods))
