"""The interface of the document, and those rules of the language that are plainly seen in the files."""

import ast
import importlib
import inspect
import pathlib
import unittest

PACKAGE = pathlib.Path(__file__).resolve().parent.parent / "likematch"

FUNCTIONS = {
    "terms": {"deep_of": ["pattern"], "filled": ["pattern", "fill"], "holes_of": ["pattern"], "is_pattern": ["thing"],
              "is_term": ["thing"], "lesser": ["one", "other"], "size_of": ["pattern"]},
    "texts": {"pattern_text": ["pattern"], "read_pattern": ["text"]},
    "papers": {"paper_of": ["web", "one", "other"], "says": ["told", "paper"], "tellings": ["paper"]},
    "tables": {"is_table": ["thing"], "keeps": ["table", "pairs"], "table_of": ["web", "more"],
               "value": ["table", "term"]},
    "clashes": {"clash": ["web"], "culprits": ["web"], "sound": ["web"]},
    "logs": {"web_of": ["log"]},
    "matches": {"joint": ["web", "patterns"], "matches": ["web", "pattern"],
                "stands_at": ["web", "pattern", "term", "fill"]},
    "rules": {"covers": ["rule"]},
    "accounts": {"account_of": ["rounds", "one", "other"], "shown": ["told", "rules", "account"], "used": ["account"]},
    "models": {"holds": ["table", "rule"], "model_of": ["web", "rules", "more"]},
    "desk": {"answers": ["text"]},
}
CLASSES = {
    "webs": {"Web": []},
    "finders": {"Finder": ["web", "patterns"]},
    "rules": {"Rule": ["name", "one", "other", "when", "apart", "triggers"]},
    "rounds": {"Rounds": ["web", "rules"]},
    "desk": {"Desk": []},
}
METHODS = {
    "webs": {"Web": {"put": ["term"], "like": ["one", "other"], "unlike": ["one", "other"], "alike": ["one", "other"],
                     "classes": [], "least": ["term"], "terms": [], "__len__": [], "told": [], "parted": [],
                     "back": [], "again": [], "log": [], "twin": [], "all_done": ["deeds"]}},
    "finders": {"Finder": {"new": [], "told": [], "gone": [], "forget": []}},
    "rules": {"Rule": {"holes": [], "triggers": [], "__eq__": ["other"]}},
    "rounds": {"Rounds": {"bring": [], "run": ["most"], "is_quiet": [], "reached": [], "rules": [], "instances": []}},
    "desk": {"Desk": {"answer": ["row"]}},
}
# Arguments by name alone, and what they are where they are left out.
BY_NAME = {("tables", "table_of"): {"more": ()}, ("models", "model_of"): {"more": ()},
           ("rules", "Rule"): {"when": (), "apart": False, "triggers": None}}
LIBRARY = {"itertools": ("combinations",)}
FORBIDDEN = (ast.Global, ast.AsyncFunctionDef, ast.Import, ast.Set, ast.Div)
BUILTINS = ("len range enumerate zip min max sum abs sorted reversed int str bool list tuple dict set isinstance ord repr "
            "any all divmod super ValueError KeyError").split()


def files():
    return sorted(PACKAGE.glob("*.py"))


def trees():
    return [(path, ast.parse(path.read_text(encoding="ascii"))) for path in files()]


def argument_names(thing):
    return list(inspect.signature(thing).parameters)


class Interface(unittest.TestCase):
    def test_functions(self):
        for name, functions in FUNCTIONS.items():
            module = importlib.import_module(f"likematch.{name}")
            for word, arguments in functions.items():
                with self.subTest(word):
                    self.assertEqual(getattr(module, word).__module__, module.__name__)
                    self.assertEqual(argument_names(getattr(module, word)), arguments)

    def test_methods_stand_in_the_class_itself(self):
        for name, classes in METHODS.items():
            module = importlib.import_module(f"likematch.{name}")
            for word, methods in classes.items():
                found = getattr(module, word)
                self.assertEqual(found.__module__, module.__name__)
                self.assertEqual(argument_names(found), CLASSES[name][word])
                for method, arguments in methods.items():
                    with self.subTest(method):
                        self.assertIn(method, vars(found))
                        self.assertEqual(argument_names(vars(found)[method]), ["self"] + arguments)

    def test_arguments_by_name_alone(self):
        for (name, word), expected in BY_NAME.items():
            parameters = inspect.signature(getattr(importlib.import_module(f"likematch.{name}"), word)).parameters
            found = {key: row.default for key, row in parameters.items() if row.kind == row.KEYWORD_ONLY}
            self.assertEqual(found, expected)

    def test_rounds_at_most(self):
        module = importlib.import_module("likematch.rounds")
        self.assertEqual(module.MOST_ROUNDS, 6)
        self.assertEqual(inspect.signature(module.Rounds.run).parameters["most"].default, 6)


class Language(unittest.TestCase):
    def test_the_folder_has_files_of_the_package_alone(self):
        found = [path.name for path in PACKAGE.iterdir() if path.name != "__pycache__"]
        self.assertIn("__init__.py", found)
        for name in found:
            self.assertRegex(name, r"\A[a-z_]+\.py\Z")

    def test_all_files_of_the_document_are_there(self):
        for name in ("errors", "terms", "texts", "webs", "papers", "tables", "clashes", "logs", "matches", "finders", "rules",
                     "rounds", "accounts", "models", "told", "desk"):
            self.assertTrue((PACKAGE / f"{name}.py").is_file(), name)

    def test_lines_and_signs(self):
        for path in files():
            lines = path.read_text(encoding="ascii").split("\n")
            self.assertLessEqual(len(lines), 400, path.name)
            for number, line in enumerate(lines, start=1):
                with self.subTest(path=path.name, line=number):
                    self.assertLessEqual(len(line), 120)
                    self.assertTrue(all(" " <= sign <= "~" for sign in line))
                    self.assertEqual(line, line.rstrip())

    def test_functions_are_small(self):
        for path, tree in trees():
            for node in ast.walk(tree):
                if isinstance(node, ast.FunctionDef):
                    with self.subTest(path=path.name, function=node.name):
                        self.assertLessEqual(node.end_lineno - node.lineno + 1, 40)
                        self.assertEqual(node.decorator_list, [])

    def test_nothing_that_is_plainly_outside(self):
        for path, tree in trees():
            for node in ast.walk(tree):
                with self.subTest(path=path.name, line=getattr(node, "lineno", 0)):
                    self.assertNotIsInstance(node, FORBIDDEN)
                    if isinstance(node, ast.Constant):
                        self.assertNotIsInstance(node.value, float)
                        self.assertNotIn("%", node.value if isinstance(node.value, str) else "")

    def test_imports_are_of_the_package(self):
        for path, tree in trees():
            for node in ast.walk(tree):
                if isinstance(node, ast.ImportFrom) and node.module in LIBRARY:
                    self.assertTrue(all(name.name in LIBRARY[node.module] for name in node.names), path.name)
                elif isinstance(node, ast.ImportFrom):
                    self.assertTrue(node.module.startswith("likematch."), path.name)
                    self.assertEqual(node.level, 0)
                    module = importlib.import_module(node.module)
                    for name in node.names:
                        self.assertIsNone(name.asname)
                        found = getattr(module, name.name)
                        self.assertEqual(getattr(found, "__module__", node.module), node.module)

    def test_builtins_that_are_called(self):
        outside = set(dir(__builtins__) if not isinstance(__builtins__, dict) else __builtins__) - set(BUILTINS)
        for path, tree in trees():
            for node in ast.walk(tree):
                name = getattr(node, "id", None) or getattr(node, "arg", None)
                if isinstance(name, str):
                    with self.subTest(path=path.name, line=node.lineno):
                        self.assertNotIn(name, outside)


if __name__ == "__main__":
    unittest.main()
