"""The subset of Python in which the package is written, as far as a short look at each file can tell."""

import ast
import builtins
import unittest
from pathlib import Path

FOLDER = Path(__file__).resolve().parent.parent / "outofwishes"
FILES = sorted(FOLDER.glob("*.py"))
USED_BUILTINS = set(
    "len range enumerate zip min max sum abs sorted reversed int str bool bytes list tuple dict set isinstance ord repr"
    " any all divmod Exception ValueError".split()
)
FROM_LIBRARY = {"math": {"gcd", "lcm"}}
INTERFACE = {
    "terms": "is_term tidy added times term_at",
    "bodies": "is_body names_in holds",
    "wishes": "Wish System is_point",
    "texts": "read_wish text_fault written",
    "programtexts": "read_program program_fault program_text",
    "flats": "plain denied tight flat cases",
    "programs": "Program is_statement places statement_at known_at run steps trail most_by_text",
    "equations": "solution is_solution gauge is_gauge mix_of",
    "loose": "is_loose_point loose_point loose_sum is_loose_sum loose_least is_loose_least loose_quarrel",
    "papers": "is_paper flaw",
    "wholes": "point_of paper_of",
    "leasts": "least_of is_end",
    "quarrels": "part quarrel is_quarrel needed loosened",
    "heldagainst": "against follows alike parted core is_core",
    "ways": "ways way_at",
    "judged": "questions papers_for wrong_at is_right are_papers_for is_wrong_at",
    "deadplaces": "comings comes_to dead_papers dead_places",
    "stepsmost": "longer takes_more steps_papers greatest_steps",
    "unlikes": "unlike_ways unlike_at alike_papers",
    "nameout": "set_of without",
    "maker": "system_at when made",
    "cheapest": "cheaper_at cost_claims falls least_claims cheapest",
    "sure": "broken_by sure sure_wish breaking",
    "machine": "is_code play lines_done as_program",
    "charts": "wanted_at is_chart chart_fault code_of fewest_registers",
}
PARAMETERS = {
    "mix_of": "system solution point", "loose_least": "system term", "is_loose_least": "system term thing", "least_of": "system term",
    "is_end": "system term thing", "part": "system indexes", "loosened": "system index", "way_at": "program given", "ways": "program",
    "is_solution": "system thing", "is_gauge": "system thing", "is_loose_point": "system thing", "is_loose_sum": "system thing",
    "is_paper": "system thing", "flaw": "system thing", "is_quarrel": "system thing", "is_core": "system thing",
    "are_papers_for": "program wish thing", "is_wrong_at": "program wish thing",
}
PARAMETERS.update({name: "names one other" for name in "against follows alike parted".split()})
PARAMETERS.update({name: "program wish" for name in "questions papers_for wrong_at is_right".split()})
PARAMETERS.update({
    name: "system" for name in "solution gauge loose_point loose_sum loose_quarrel point_of paper_of quarrel needed core".split()
})
PARAMETERS.update({name: "program place" for name in "comings comes_to dead_papers wanted_at".split()})
PARAMETERS.update({name: "program number" for name in "longer takes_more steps_papers".split()})
PARAMETERS.update({name: "program" for name in "dead_places greatest_steps code_of fewest_registers".split()})
PARAMETERS.update({name: "program other" for name in "unlike_ways unlike_at alike_papers".split()})
PARAMETERS.update({name: "program wish term" for name in "cheaper_at cost_claims".split()})
PARAMETERS.update({name: "wish term" for name in "falls least_claims cheapest".split()})
PARAMETERS.update({name: "wish name low high" for name in "sure_wish breaking".split()})
PARAMETERS.update({name: "program code given" for name in "play lines_done".split()})
PARAMETERS.update({
    "set_of": "case name numbers", "without": "case name", "system_at": "wish given", "when": "wish", "made": "wish",
    "broken_by": "case name low high numbers", "sure": "case name low high", "is_code": "program thing",
    "as_program": "program code", "is_chart": "program code thing", "chart_fault": "program code chart",
})
ITERABLE = {"range", "zip", "enumerate", "reversed", "items", "keys", "values"}
TAKERS = {"list", "tuple", "dict", "sorted", "sum", "any", "all", "enumerate", "zip", "min", "max"}
METHODS = {
    "Wish": "inputs outputs body does __eq__", "System": "names bodies __eq__", "Program": "inputs outputs statement __eq__",
}


def tree_of(path):
    return ast.parse(path.read_text(encoding="ascii"))


def name_of(node):
    """The bare name or the last word of what is called, None if nothing is called."""
    called = node.func if isinstance(node, ast.Call) else None
    return getattr(called, "id", getattr(called, "attr", None))


def is_iterated_at_once(node, above):
    """Whether a range, zip, enumerate, reversed or view stands where it is gone over on the spot."""
    if isinstance(above, (ast.For, ast.comprehension)):
        return above.iter is node
    if name_of(above) == "reversed" and name_of(node) == "range":
        return True
    return name_of(above) in TAKERS and (above.args[0] is node or name_of(above) == "zip")


def bound_names(tree):
    for node in ast.walk(tree):
        if isinstance(node, (ast.FunctionDef, ast.ClassDef)):
            yield node.name
        elif isinstance(node, ast.arg):
            yield node.arg
        elif isinstance(node, ast.Name) and isinstance(node.ctx, ast.Store):
            yield node.id


class Language(unittest.TestCase):
    def test_only_plain_files(self):
        others = [path.name for path in FOLDER.iterdir() if path.suffix != ".py" and path.name != "__pycache__"]
        self.assertEqual(others, [])

    def test_size_and_characters(self):
        for path in FILES:
            text = path.read_text(encoding="utf-8")
            self.assertLessEqual(len(text.splitlines()), 399, path.name)
            self.assertTrue(all(" " <= sign <= "~" or sign == "\n" for sign in text), path.name)
            self.assertLessEqual(max(len(line) for line in text.splitlines()), 120, path.name)
            for node in ast.walk(tree_of(path)):
                if isinstance(node, ast.FunctionDef):
                    self.assertLessEqual(node.end_lineno - node.lineno + 1, 40, node.name)
                    self.assertEqual(node.decorator_list, [])

    def test_imports_without_circles(self):
        taken = {}
        for path in FILES:
            taken[path.stem] = []
            for node in ast.walk(tree_of(path)):
                self.assertNotIsInstance(node, ast.Import)
                if isinstance(node, ast.ImportFrom):
                    names = {one.name for one in node.names}
                    self.assertTrue(all(one.asname is None for one in node.names))
                    if node.module in FROM_LIBRARY:
                        self.assertLessEqual(names, FROM_LIBRARY[node.module])
                    else:
                        package, name = node.module.split(".")
                        self.assertEqual(package, "outofwishes")
                        taken[path.stem].append(name)
                        own = {one.name for one in tree_of(FOLDER / f"{name}.py").body if hasattr(one, "name")}
                        own |= {one.targets[0].id for one in tree_of(FOLDER / f"{name}.py").body if isinstance(one, ast.Assign)}
                        self.assertLessEqual(names, own)
        while taken:
            free = [name for name in taken if not [other for other in taken[name] if other in taken]]
            self.assertTrue(free, taken)
            for name in free:
                del taken[name]

    def test_names_and_builtins(self):
        for path in FILES:
            tree = tree_of(path)
            bound = set(bound_names(tree))
            self.assertEqual(sorted(name for name in bound if hasattr(builtins, name) and name[0] != "_"), [], path.name)
            for node in ast.walk(tree):
                if isinstance(node, ast.Name) and isinstance(node.ctx, ast.Load) and hasattr(builtins, node.id):
                    self.assertIn(node.id, USED_BUILTINS, path.name)

    def test_no_names_of_classes_or_imports_taken_again(self):
        for path in FILES:
            tree = tree_of(path)
            names = [one.name for node in tree.body if isinstance(node, ast.ImportFrom) for one in node.names]
            names += [node.name for node in tree.body if isinstance(node, ast.ClassDef)]
            bound = [name for name in bound_names(tree) if name in names]
            self.assertEqual(sorted(bound), sorted([node.name for node in tree.body if isinstance(node, ast.ClassDef)]))
            self.assertEqual(len(set(names)), len(names))

    def test_barred_forms(self):
        barred = (
            ast.GeneratorExp, ast.Lambda, ast.Global, ast.Nonlocal, ast.Yield, ast.YieldFrom, ast.Div, ast.Pow, ast.Starred,
            ast.AsyncFunctionDef, ast.NamedExpr, ast.Set, ast.Match, ast.With,
        )
        for path in FILES:
            for node in ast.walk(tree_of(path)):
                self.assertNotIsInstance(node, barred, (path.name, getattr(node, "lineno", 0)))
                if isinstance(node, ast.Constant):
                    self.assertNotIsInstance(node.value, float)
                    self.assertNotIn("%", str(node.value))
                if isinstance(node, ast.Compare) and isinstance(node.ops[0], (ast.Is, ast.IsNot)):
                    self.assertIn(ast.unparse(node.comparators[0]), ["None", "True", "False"])

    def test_iterated_at_once(self):
        for path in FILES:
            for above in ast.walk(tree_of(path)):
                for node in ast.iter_child_nodes(above):
                    if name_of(node) in ITERABLE:
                        self.assertTrue(is_iterated_at_once(node, above), (path.name, node.lineno))

    def test_no_name_is_a_method_and_an_attribute_of_a_class(self):
        for path in FILES:
            for node in ast.walk(tree_of(path)):
                if isinstance(node, ast.ClassDef):
                    methods = {one.name for one in node.body if isinstance(one, ast.FunctionDef)}
                    kept = {one.attr for one in ast.walk(node) if isinstance(one, ast.Attribute) and isinstance(one.ctx, ast.Store)}
                    self.assertEqual(methods & kept, set(), (path.name, node.name))

    def test_nothing_is_imported_in_vain(self):
        for path in FILES:
            tree = tree_of(path)
            names = [one.name for node in tree.body if isinstance(node, ast.ImportFrom) for one in node.names]
            used = {node.id for node in ast.walk(tree) if isinstance(node, ast.Name)}
            self.assertEqual([name for name in names if name not in used], [], path.name)

    def test_interface_is_defined_where_it_is_listed(self):
        for stem, names in INTERFACE.items():
            own = {node.name: node for node in tree_of(FOLDER / f"{stem}.py").body if isinstance(node, (ast.FunctionDef, ast.ClassDef))}
            for name in names.split():
                self.assertIn(name, own)
                methods = [one.name for one in own[name].body if isinstance(one, ast.FunctionDef)]
                if name in PARAMETERS:
                    self.assertEqual([one.arg for one in own[name].args.args], PARAMETERS[name].split(), name)
                self.assertLessEqual(set(METHODS.get(name, "").split()), set(methods))
