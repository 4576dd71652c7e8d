"""Whether each name of the interface is there, defined in its own file, with its arguments."""

import ast
import pathlib
import subprocess
import sys
import unittest

ROOT = pathlib.Path(__file__).resolve().parent.parent
PACKAGE = ROOT / "askedthen"

# For each module its functions and classes with their arguments; a class with its methods.
FUNCTIONS = {
    "values": {"kind_of": "value", "in_order": "rows", "order_of": "row", "is_number": "value most",
               "is_text": "value"},
    "spans": {"is_day": "value", "are_days": "start stop", "are_spans": "spans", "holds": "spans day",
              "unite": "first second", "meet": "first second", "less": "first second",
              "points_of": "rows", "pieces": "points", "joined": "pairs"},
    "schemas": {"check_schema": "schema", "columns_of": "schema name", "is_row": "columns row",
                "place_of": "columns name", "is_name": "value", "are_unlike": "names"},
    "deeds": {"check_deed": "schema deed"},
    "octets": {"is_key": "value", "key_octets": "key", "body": "values", "are_key_octets": "octets",
               "range_of": "values", "range_of_text": "values beginning", "range_of_key": "key",
               "first_bit": "one other", "has_bit": "octets number"},
    "words": {"all_words": "text", "words_of": "text", "is_word": "value"},
    "knowing": {"row_entries": "schema table row spans"},
    "trees": {"put": "hasher tree key spans", "tree_of": "hasher rows", "entries": "tree first last",
              "input_of": "tree", "state_input": "tree", "root": "hasher tree"},
    "pruning": {"prune": "tree ranges", "prune_for": "tree keys"},
    "papers": {"paper_of": "tree", "tree_of_paper": "hasher parts"},
    "clashes": {"find_clash": "hasher tree paper"},
    "rows": {"row_digest": "hasher digests", "inclusion": "hasher digests place",
             "extension": "hasher digests size", "included_digest": "hasher size place digest paper",
             "extended_digests": "hasher old size paper",
             "find_row_clash": "hasher digests place digest paper",
             "find_extension_clash": "hasher old new paper"},
    "wishes": {"is_wish": "value", "fulfils": "text wish", "wish_ranges": "wish table column",
               "found": "wish table column source"},
    "wishtexts": {"parse_wish": "text", "show_wish": "wish"},
    "questions": {"columns": "question schema"},
    "daily": {"meaning": "question schema tables"},
    "relations": {"collected": "pairs", "picked": "relation place comparison value",
                  "picked_same": "relation place other", "kept": "relation places",
                  "united": "first second", "lessened": "first second", "counted": "relation places",
                  "summed": "relation places place", "combined": "first second common others"},
    "answering": {"answer": "question schema source", "needs": "question schema", "rows_on": "rows day"},
    "judging": {"fits": "schema key", "judge": "hasher schema digest question rows parts"},
    "askers": {"digest_after": "hasher changes parts"},
    "history": {"turns": "keeper schema question row day"},
}
CLASSES = {
    "errors": {"AskError": None, "InvalidArgument": "name", "BadQuestion": "reason",
               "BadPaper": "place", "BadWish": "place", "NoSuchDeed": "number", "Unknown": None,
               "TooManyDeeds": None},
    "knowing": {"Knowledge": "schema"},
    "hashing": {"Hasher": "modulus multiplier"},
    "trees": {"TreeSource": "tree"},
    "rows": {"DigestRow": "hasher"},
    "askers": {"Asker": "hasher schema row size"},
    "keepers": {"Keeper": "schema hasher"},
}
METHODS = {
    ("knowing", "Knowledge"): {"apply": "deed", "days": "table row", "rows": "table", "entries": ""},
    ("hashing", "Hasher"): {"digest": "numbers"},
    ("trees", "TreeSource"): {"entries": "first last"},
    ("rows", "DigestRow"): {"append": "digest", "digest": "", "inclusion": "place", "extension": "size"},
    ("askers", "Asker"): {"learn": "row size paper", "takes_state": "number digest paper",
                          "takes": "question rows parts state", "takes_change": "before after changes parts"},
    ("keepers", "Keeper"): {"record": "deed", "deeds": "", "days": "table row", "tree": "number",
                            "digest": "number", "ask": "question number", "changes": "number",
                            "row_digest": "", "inclusion": "number", "extension": "number"},
}
MODULES = sorted(set(FUNCTIONS) | set(CLASSES))


def tree_of(module):
    return ast.parse((PACKAGE / (module + ".py")).read_text("utf-8"))


def defined(nodes, kind):
    return {node.name: node for node in nodes if isinstance(node, kind)}


def arguments(function):
    """The arguments of a function; anything but plain ones without defaults shows as a star."""
    found = function.args
    odd = found.vararg or found.kwarg or found.kwonlyargs or found.posonlyargs or found.defaults
    return [argument.arg for argument in found.args] + (["*"] if odd else [])


class Interface(unittest.TestCase):
    def test_functions(self):
        for module, functions in FUNCTIONS.items():
            there = defined(tree_of(module).body, ast.FunctionDef)
            for name, words in functions.items():
                self.assertIn(name, there, module)
                self.assertEqual(arguments(there[name]), words.split(), (module, name))

    def test_classes(self):
        for module, classes in CLASSES.items():
            there = defined(tree_of(module).body, ast.ClassDef)
            for name, words in classes.items():
                self.assertIn(name, there, module)
                methods = defined(there[name].body, ast.FunctionDef)
                if words is None:
                    self.assertNotIn("__init__", methods)
                else:
                    self.assertEqual(arguments(methods["__init__"]), ["self"] + words.split())

    def test_methods_stand_in_the_class_itself(self):
        for (module, name), methods in METHODS.items():
            there = defined(defined(tree_of(module).body, ast.ClassDef)[name].body, ast.FunctionDef)
            for method, words in methods.items():
                self.assertIn(method, there, name)
                self.assertEqual(arguments(there[method]), ["self"] + words.split(), (name, method))

    def test_each_module_can_be_imported_alone(self):
        for module in MODULES:
            done = subprocess.run([sys.executable, "-c", "import askedthen." + module], cwd=ROOT)
            self.assertEqual(done.returncode, 0, module)

    def test_every_import_is_one_of_the_package(self):
        for path in PACKAGE.glob("*.py"):
            for node in ast.walk(ast.parse(path.read_text("utf-8"))):
                self.assertNotIsInstance(node, ast.Import, path.name)
                if isinstance(node, ast.ImportFrom):
                    self.assertEqual(node.level, 0, path.name)
                    self.assertTrue(node.module.startswith("askedthen."), (path.name, node.module))

    def test_the_package_folder_holds_only_its_files(self):
        for path in PACKAGE.iterdir():
            self.assertTrue(path.suffix == ".py" or path.name == "__pycache__", path.name)
        self.assertTrue((PACKAGE / "__init__.py").is_file())

    def test_sizes(self):
        for path in PACKAGE.glob("*.py"):
            text = path.read_text("utf-8")
            lines = text.splitlines()
            self.assertLessEqual(len(lines), 399, path.name)
            self.assertLessEqual(max(len(line) for line in lines), 120, path.name)
            self.assertTrue(all(sign == "\n" or " " <= sign <= "~" for sign in text), path.name)
            for node in ast.walk(ast.parse(text)):
                if isinstance(node, ast.FunctionDef):
                    self.assertLessEqual(node.end_lineno - node.lineno + 1, 40, node.name)


if __name__ == "__main__":
    unittest.main()
