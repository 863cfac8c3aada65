import ast
import builtins
import unittest
from pathlib import Path

import drivefold

FOLDER = Path(drivefold.__file__).parent
LIBRARY = {"heapq", "math", "itertools", "collections"}
ALLOWED = set("""
len range enumerate zip min max sum abs sorted reversed int str bool bytes list tuple dict set frozenset isinstance
ord repr any all divmod pow getattr hasattr setattr iter next map super property staticmethod classmethod
Exception ValueError TypeError KeyError IndexError LookupError ZeroDivisionError ArithmeticError OverflowError
RuntimeError NotImplementedError AttributeError StopIteration NotImplemented True False None
""".split())
INTERFACE = {
    "errors.py": {
        "DriveFoldError": None, "BadTerm": None, "BadPaper": None, "TooLarge": None, "BadProgram": None,
        "BadJournal": None, "Refused": None, "WrongPaper": None},
    "terms.py": {
        "size": ["term"], "unknowns": ["term"], "names": ["term"], "applied": ["term", "arguments"],
        "put": ["term", "parts"]},
    "termtexts.py": {"write_term": ["term"], "read_term": ["text"]},
    "matching.py": {"match": ["pattern", "term"], "generalize": ["first", "second"]},
    "lying.py": {"within": ["first", "second"]},
    "programtexts.py": {"write_program": ["program"], "read_program": ["text"]},
    "running.py": {"demand": ["program", "term"], "run": ["program", "term", "steps"], "drive": ["program", "term"]},
    "sessions.py": {"Session": None},
    "residuals.py": {"residual": ["program", "graph"]},
    "papers.py": {
        "write_paper": ["graph"], "read_paper": ["text"], "wrong_line": ["program", "graph"],
        "check": ["program", "start", "text"]},
    "tidying.py": {"tidy": ["program", "keep"]},
    "journals.py": {"restart": ["program", "text"]},
}
SESSION = {
    "__init__": ["program", "start"], "expose": ["node"], "drive": ["node"], "split": ["node", "body", "parts"],
    "fold": ["node", "other"], "leave": ["node"], "count": [], "open_nodes": [], "node": ["number"],
    "whistle": ["number"], "way": ["number"], "graph": [], "auto": [], "journal": [],
}


class FormTests(unittest.TestCase):
    def setUp(self):
        self.texts = {path.name: path.read_text(encoding="utf-8") for path in sorted(FOLDER.glob("*.py"))}
        self.trees = {name: ast.parse(text) for name, text in self.texts.items()}

    def test_the_folder_contains_nothing_but_files_of_the_language(self):
        others = [path.name for path in FOLDER.iterdir() if path.suffix != ".py" and path.name != "__pycache__"]
        self.assertEqual(others, [])

    def test_characters_and_lengths(self):
        for name, text in self.texts.items():
            self.assertTrue(all(character == "\n" or " " <= character <= "~" for character in text), name)
            self.assertLessEqual(len(text.splitlines()), 399, name)
            self.assertLessEqual(max(map(len, text.splitlines())), 120, name)
            for node in ast.walk(self.trees[name]):
                if isinstance(node, ast.FunctionDef):
                    self.assertLessEqual(node.end_lineno - node.lineno + 1, 40, (name, node.name))
                if isinstance(node, ast.Constant) and isinstance(node.value, str):
                    self.assertNotIn("%", node.value, name)

    def test_nothing_is_imported_from_outside(self):
        for name, tree in self.trees.items():
            for node in ast.walk(tree):
                self.assertNotIsInstance(node, ast.Import, name)
                if isinstance(node, ast.ImportFrom):
                    self.assertIn(node.module.split(".")[0], LIBRARY | {"drivefold"}, name)

    def test_no_builtin_reaches_clock_files_or_random_numbers(self):
        for name, tree in self.trees.items():
            used = {node.id for node in ast.walk(tree) if isinstance(node, ast.Name)}
            self.assertEqual(sorted((used & set(dir(builtins))) - ALLOWED), [], name)

    def test_the_interface_stands_in_its_files(self):
        for name, interface in INTERFACE.items():
            defined = {node.name: node for node in self.trees[name].body
                       if isinstance(node, (ast.FunctionDef, ast.ClassDef))}
            for word, arguments in interface.items():
                self.assertIn(word, defined, name)
                if arguments is None:
                    self.assertIsInstance(defined[word], ast.ClassDef)
                else:
                    self.assertEqual([argument.arg for argument in defined[word].args.args], arguments, word)

    def test_the_methods_stand_in_the_class_itself(self):
        classes = [node for node in self.trees["sessions.py"].body if isinstance(node, ast.ClassDef)]
        self.assertEqual([node.name for node in classes], ["Session"])
        methods = {node.name: [argument.arg for argument in node.args.args[1:]]
                   for node in classes[0].body if isinstance(node, ast.FunctionDef)}
        for name, arguments in SESSION.items():
            self.assertEqual(methods.get(name), arguments, name)


if __name__ == "__main__":
    unittest.main()
