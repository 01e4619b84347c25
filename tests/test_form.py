"""What is required of the package's form: its interface, and some of the rules of its files."""

import ast
import pathlib
import unittest

FOLDER = pathlib.Path(__file__).resolve().parent.parent / "waitbolts"
INTERFACE = {
    "locks": {
        "is_lock": ["thing"], "fault_of": ["thing"], "is_stand": ["lock", "thing"], "is_wish": ["lock", "thing"],
        "stands_of": ["lock"], "can_step": ["lock", "stand"], "walked": ["lock", "stand", "steps"],
        "spread": ["lock", "stand", "price"],
    },
    "least": {
        "least": ["lock", "row"], "first_steps": ["lock", "stand", "wish"],
        "how_many": ["lock", "stand", "wish", "most"],
    },
    "books": {"weighed": ["lock", "book"], "told_way": ["lock", "row"], "meets": ["lock", "book", "row"]},
    "readings": {
        "step_at": ["lock", "book", "t"], "stand_at": ["lock", "book", "t"], "price_at": ["lock", "book", "t"],
        "times": ["lock", "book", "wish"], "time_at": ["lock", "book", "wish", "n"], "moves": ["lock", "book"],
    },
    "bookwork": {
        "joined": ["lock", "book", "second"], "part_of": ["lock", "book", "t", "u"], "back": ["lock", "book"],
        "mended": ["lock", "book", "wish"], "waste": ["lock", "book", "wish"], "astray": ["lock", "book", "wish"],
        "settled": ["lock", "book"],
    },
    "papers": {
        "keeps": ["lock", "paper"], "bars": ["lock", "row", "price", "paper"], "told_paper": ["lock", "row"],
    },
    "behind": {
        "keeps_behind": ["lock", "paper"], "bars_behind": ["lock", "row", "price", "paper"],
        "behind_paper": ["lock", "row"],
    },
    "always": {
        "uses": ["lock", "row", "gaps"], "lengths": ["lock", "row"], "needed": ["lock", "row"],
        "spans": ["lock", "row", "gap"],
    },
    "changes": {
        "put_gap": ["lock", "k", "here", "there", "price"], "out_gap": ["lock", "k", "here", "there"],
        "put_way": ["lock", "k", "here", "there", "way"], "out_way": ["lock", "k", "here", "there", "way"],
        "priced": ["lock", "k", "here", "there", "price"], "rusted": ["lock", "places"], "lower": ["lock", "many"],
        "renamed": ["lock", "k", "names"], "turned": ["lock"], "upon": ["lock", "second", "stand"],
        "without": ["lock", "places", "wish"], "is_within": ["lock", "second"],
    },
    "lean": {"needless": ["lock"], "lean": ["lock"], "alike": ["lock", "second"]},
    "reach": {"coming": ["lock", "wish"], "come_to": ["lock", "wish"], "lost": ["lock", "stand", "wish"]},
    "parts": {
        "together": ["lock", "one", "other"], "size": ["lock", "stand"], "parts": ["lock"],
        "apart": ["lock", "one", "other"],
    },
    "made": {"made": ["count"], "row_of": ["places"]},
    "texts": {
        "show_lock": ["lock"], "show_book": ["book"], "show_paper": ["paper"], "read_lock": ["text"],
        "read_book": ["text"], "read_paper": ["text"],
    },
}
CLASSES = {
    ("keepers", "Keeper"): {
        "__init__": ["self", "lock", "stand", "home"], "do": ["self", "deed"], "run": ["self", "deeds"],
        "undo": ["self"], "again": ["self"], "lock_now": ["self"], "free_lock": ["self"], "way_to": ["self", "wishes"],
        "stand_now": ["self"], "coins_now": ["self"], "paid_now": ["self"], "gone_now": ["self"], "home_now": ["self"],
        "rust_now": ["self"], "deeds_now": ["self"], "copied": ["self"],
    },
    ("desk", "Desk"): {"__init__": ["self"], "say": ["self", "row"]},
}
LIBRARY = {"heapq": ["heappush", "heappop"]}


class FormTest(unittest.TestCase):
    def files(self):
        """Each file of the package with its text and its tree."""
        for path in sorted(FOLDER.glob("*.py")):
            text = path.read_text(encoding="utf-8")
            yield path, text, ast.parse(text)

    def test_the_interface_is_defined_where_it_is_listed(self):
        for name, functions in INTERFACE.items():
            tree = ast.parse((FOLDER / (name + ".py")).read_text(encoding="utf-8"))
            defined = {row.name: row for row in tree.body if isinstance(row, ast.FunctionDef)}
            for function, names in functions.items():
                self.assertEqual([arg.arg for arg in defined[function].args.args], names)

    def test_the_methods_are_defined_in_the_classes_themselves(self):
        for (name, kind), methods in CLASSES.items():
            tree = ast.parse((FOLDER / (name + ".py")).read_text(encoding="utf-8"))
            [body] = [row.body for row in tree.body if isinstance(row, ast.ClassDef) and row.name == kind]
            defined = {row.name: [arg.arg for arg in row.args.args] for row in body if isinstance(row, ast.FunctionDef)}
            for method, names in methods.items():
                self.assertEqual(defined[method], names)

    def test_the_folder_has_python_files_alone(self):
        others = [path.name for path in FOLDER.iterdir() if path.suffix != ".py" and path.name != "__pycache__"]
        self.assertEqual(others, [])
        self.assertTrue((FOLDER / "__init__.py").exists())

    def test_sizes_and_signs(self):
        for path, text, tree in self.files():
            self.assertLessEqual(len(text.splitlines()), 399, path)
            self.assertTrue(all(len(line) <= 120 for line in text.splitlines()), path)
            self.assertTrue(all(sign == "\n" or " " <= sign <= "~" for sign in text), path)
            for node in ast.walk(tree):
                if isinstance(node, ast.FunctionDef):
                    self.assertLessEqual(node.end_lineno - node.lineno + 1, 40, (path, node.name))
                    self.assertTrue(ast.get_docstring(node) or node.name == "__init__", (path, node.name))

    def test_imports(self):
        for path, _, tree in self.files():
            for node in ast.walk(tree):
                self.assertNotIsInstance(node, ast.Import, path)
                if isinstance(node, ast.ImportFrom):
                    self.check_import(path, node)

    def check_import(self, path, node):
        names = [name.name for name in node.names]
        self.assertEqual([name.asname for name in node.names], [None] * len(names))
        if node.module in LIBRARY:
            self.assertLessEqual(set(names), set(LIBRARY[node.module]), path)
            return
        folder, file = node.module.split(".")
        self.assertEqual((folder, node.level), ("waitbolts", 0), path)
        tree = ast.parse((FOLDER / (file + ".py")).read_text(encoding="utf-8"))
        defined = [row.name for row in tree.body if isinstance(row, (ast.FunctionDef, ast.ClassDef))]
        defined += [row.targets[0].id for row in tree.body if isinstance(row, ast.Assign)]
        self.assertLessEqual(set(names), set(defined), path)


if __name__ == "__main__":
    unittest.main()
