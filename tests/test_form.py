"""The form of the package's files: where names are defined, sizes, characters, imports."""

import ast
import os
import unittest

FOLDER = os.path.join(os.path.dirname(os.path.dirname(os.path.abspath(__file__))), "heldtones")

INTERFACE = {
    "errors.py": [
        "ToneError", "InvalidName", "DoubleName", "DoubleTone", "InvalidTone", "UnknownChord",
        "UnknownChange", "WrongSong", "WrongNumbers", "NotEven", "UnlikeParts", "NothingToUndo",
        "Unreadable",
    ],
    "ratios.py": ["times", "over", "is_greater", "fraction"],
    "books.py": ["Book", "follow", "parts", "changes_of"],
    "pitches.py": ["pitches", "drifting", "keeps", "even_numbers", "weights", "judge_even",
                   "judge_weights", "is_even", "song_of"],
    "drifts.py": ["lattice", "can_come", "come_numbers", "judge_numbers", "rests", "judge_rests"],
    "heights.py": ["highest", "lowest", "highest_song", "lowest_song", "rising", "sinking"],
    "singers.py": ["Singer", "SteadySinger"],
    "texts.py": ["show_ratio", "show_book"],
    "readings.py": ["read_ratio", "read_book"],
}
SOURCES = ["heldtones", "heapq", "math", "itertools", "collections"]
METHODS = {
    "Book": ["__init__", "chords", "changes", "shift", "__getitem__", "__len__", "without",
             "backward", "__eq__"],
    "Singer": ["__init__", "__call__", "chord", "pitch", "song", "able", "drift", "undo", "sing_all",
               "__len__", "__eq__"],
    "SteadySinger": ["__init__", "__call__", "able", "sing_all", "__eq__"],
}


def read(name):
    with open(os.path.join(FOLDER, name), encoding="utf-8", newline="") as file:
        return file.read()


class FormTest(unittest.TestCase):
    def setUp(self):
        self.names = sorted(name for name in os.listdir(FOLDER) if name != "__pycache__")
        self.texts = {name: read(name) for name in self.names}
        self.trees = {name: ast.parse(text) for name, text in self.texts.items()}

    def test_files(self):
        self.assertIn("__init__.py", self.names)
        for name in self.names:
            self.assertRegex(name, r"\A[a-z_]+\.py\Z")
            self.assertNotRegex(name, r"\Atest")

    def test_interface_stands_where_it_is_listed(self):
        for name, told in INTERFACE.items():
            defined = {node.name: node for node in self.trees[name].body
                       if isinstance(node, (ast.FunctionDef, ast.ClassDef))}
            for word in told:
                self.assertIn(word, defined)
            for word in set(told) & set(METHODS):
                methods = [node.name for node in defined[word].body
                           if isinstance(node, ast.FunctionDef)]
                self.assertLessEqual(set(METHODS[word]), set(methods))

    def test_characters_and_sizes(self):
        for name, text in self.texts.items():
            self.assertLessEqual({ord(sign) for sign in text} - {10}, set(range(32, 127)), name)
            rows = text.split("\n")
            self.assertLessEqual(len(rows), 399, name)
            self.assertLessEqual(max(len(row) for row in rows), 120, name)
            for node in ast.walk(self.trees[name]):
                if isinstance(node, ast.FunctionDef):
                    self.assertLessEqual(node.end_lineno - node.lineno + 1, 40, node.name)

    def test_imports(self):
        for name, tree in self.trees.items():
            for node in ast.walk(tree):
                self.assertNotIsInstance(node, ast.Import, name)
                if isinstance(node, ast.ImportFrom):
                    self.assertIn(node, tree.body)
                    self.assertEqual(node.level, 0)
                    self.assertIn(node.module.split(".")[0], SOURCES)


if __name__ == "__main__":
    unittest.main()
