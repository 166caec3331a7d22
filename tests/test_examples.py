"""The examples of the document, as they stand there, and that of README.md."""

import doctest
import os
import unittest

README = os.path.join(os.path.dirname(os.path.dirname(os.path.abspath(__file__))), "README.md")

RATIOS = """
>>> from heldtones.ratios import fraction, is_greater, over, times
>>> [times((-1, 1, 0), (-2, 0, 1)), over((-1, 1, 0), (-2, 0, 1)), is_greater((-4, 4, -1), (0, 0, 0)), fraction((-4, 4, -1)), is_greater((0, 0, 0), (0, 0, 0))]
[(-3, 1, 1), (1, 1, -1), True, (81, 80), False]
"""

BOOKS = """
>>> from heldtones.books import Book, changes_of, follow, parts
>>> major, minor = [(0, 0, 0), (-2, 0, 1), (-1, 1, 0)], [(0, 0, 0), (1, 1, -1), (-1, 1, 0)]
>>> book = Book([("c", major), ("a", minor), ("d", minor), ("g", major)], [("ca", "c", 0, "a", 1), ("ad", "a", 0, "d", 2), ("dg", "d", 0, "g", 2), ("gc", "g", 0, "c", 2)])
>>> [book.shift("ca"), follow(book, "c", ["ca", "ad", "dg", "gc"]), parts(book), changes_of(book, "d"), book.backward().shift("ca"), parts(book.without("gc"))]
[(-1, -1, 1), ('c', (2, -4, 1)), [['c', 'a', 'd', 'g']], ['ca', 'ad', 'dg', 'gc'], (1, 1, -1), [['c'], ['a'], ['d'], ['g']]]
"""


class ExamplesTest(unittest.TestCase):
    def check(self, text, head):
        test = doctest.DocTestParser().get_doctest(text, {}, head, None, 0)
        shown = []
        result = doctest.DocTestRunner(verbose=False).run(test, out=shown.append)
        self.assertEqual(result.failed, 0, "".join(shown))
        self.assertGreater(result.attempted, 0)

    def test_ratios(self):
        self.check(RATIOS, "ratios")

    def test_books(self):
        self.check(BOOKS, "books")

    def test_readme(self):
        with open(README, encoding="utf-8") as file:
            self.check(file.read().replace("```", ""), "README.md")


if __name__ == "__main__":
    unittest.main()
