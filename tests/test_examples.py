"""The examples of the document, as they stand there, and that of README.md."""

import doctest
import os
import unittest

README = os.path.join(os.path.dirname(os.path.dirname(os.path.abspath(__file__))), "README.md")

RATIOS = """
>>> from heldtones.ratios import fraction, is_greater, over, times
>>> [times((-1, 1, 0), (-2, 0, 1)), over((-1, 1, 0), (-2, 0, 1)), is_greater((-4, 4, -1), (0, 0, 0)), fraction((-4, 4, -1)), is_greater((0, 0, 0), (0, 0, 0))]
[(-3, 1, 1), (1, 1, -1), True, (81, 80), False]
"""

BOOKS = """
>>> from heldtones.books import Book, changes_of, follow, parts
>>> major, minor = [(0, 0, 0), (-2, 0, 1), (-1, 1, 0)], [(0, 0, 0), (1, 1, -1), (-1, 1, 0)]
>>> book = Book([("c", major), ("a", minor), ("d", minor), ("g", major)], [("ca", "c", 0, "a", 1), ("ad", "a", 0, "d", 2), ("dg", "d", 0, "g", 2), ("gc", "g", 0, "c", 2)])
>>> [book.shift("ca"), follow(book, "c", ["ca", "ad", "dg", "gc"]), parts(book), changes_of(book, "d"), book.backward().shift("ca"), parts(book.without("gc"))]
[(-1, -1, 1), ('c', (2, -4, 1)), [['c', 'a', 'd', 'g']], ['ca', 'ad', 'dg', 'gc'], (1, 1, -1), [['c'], ['a'], ['d'], ['g']]]
"""

PITCHES = """
>>> from heldtones.books import Book, follow
>>> from heldtones.pitches import drifting, even_numbers, is_even, judge_even, judge_weights, keeps, pitches, song_of, weights
>>> one = [(0, 0, 0), (-1, 1, 0)]
>>> book = Book([("c", one), ("g", one)], [("up", "c", 1, "g", 0), ("down", "g", 0, "c", 1), ("stay", "c", 0, "c", 0)])
>>> [pitches(book), drifting(book), keeps(book, [("g", (0, 0, 0)), ("c", (1, -1, 0))]), judge_even(book, "stay", even_numbers(book, "stay")), is_even(book, "g"), weights(book, "up")]
[[('c', (0, 0, 0)), ('g', (-1, 1, 0))], None, True, True, True, None]
>>> wide = Book([("c", one)], [("up", "c", 1, "c", 0), ("stay", "c", 0, "c", 0)])
>>> [pitches(wide), drifting(wide), even_numbers(wide, "up"), judge_weights(wide, "up", weights(wide, "up")), judge_weights(wide, "up", ((1, 1, 0), [("c", 0)])), judge_weights(wide, "up", ((0, 1, 0), [("c", 7)])), is_even(wide, "c")]
[None, ('c', ['up']), None, True, False, True, False]
>>> [judge_even(book, "up", [("down", 2), ("up", 2)]), judge_even(book, "up", [("up", 1)]), follow(book, "c", song_of(book, "c", [("up", 2), ("down", 1)]))]
[True, False, ('g', (-1, 1, 0))]
"""

DRIFTS = """
>>> from heldtones.books import Book
>>> from heldtones.drifts import can_come, come_numbers, judge_numbers, judge_rests, lattice, rests
>>> one = [(0, 0, 0), (-1, 1, 0), (-2, 0, 1)]
>>> book = Book([("c", one), ("g", one)], [("up", "c", 1, "g", 0), ("down", "g", 0, "c", 1), ("two", "c", 1, "g", 2), ("back", "g", 2, "c", 1)])
>>> [lattice(book, "c"), can_come(book, "c", "g", (1, 1, -1)), can_come(book, "c", "c", (-2, 0, 1)), can_come(book, "c", "c", (2, 0, 0)), judge_numbers(book, "c", "g", (1, 1, -1), come_numbers(book, "c", "g", (1, 1, -1)))]
[[(2, 0, -1)], True, True, False, True]
>>> [judge_rests(book, "c", "c", (2, 0, 0), rests(book, "c", "c", (2, 0, 0))), judge_rests(book, "c", "c", (1, 0, 0), (0, (1, 0, 2), [("c", 0), ("g", 1)])), judge_numbers(book, "c", "g", (1, 1, -1), [("two", 1)])]
[True, True, True]
"""

HEIGHTS = """
>>> from heldtones.books import Book
>>> from heldtones.heights import highest, highest_song, lowest, rising, sinking
>>> one = [(0, 0, 0), (-1, 1, 0)]
>>> book = Book([("c", one), ("g", one), ("d", one)], [("up", "c", 1, "g", 0), ("more", "g", 1, "d", 0), ("home", "d", 0, "c", 1)])
>>> [highest(book, "c"), rising(book, "c")[1] != [], lowest(book, "c"), sinking(book, "c")]
[None, True, (0, 0, 0), None]
>>> [highest(book.without("home"), "c"), highest_song(book.without("home"), "g"), lowest(book.without("up"), "c")]
[(-2, 2, 0), ['more'], (0, 0, 0)]
"""

SINGERS = """
>>> from heldtones.books import Book
>>> from heldtones.singers import Singer, SteadySinger
>>> one = [(0, 0, 0), (-1, 1, 0)]
>>> book = Book([("c", one)], [("up", "c", 1, "c", 0), ("stay", "c", 0, "c", 0)])
>>> singer, steady = Singer(book, "c"), SteadySinger(book, "c")
>>> [singer("up"), singer.drift(), singer("stay"), singer.drift(), singer.undo(), singer.pitch, len(singer), singer.able(), steady.able(), steady("stay"), steady == singer]
[(-1, 1, 0), (-1, 1, 0), (-1, 1, 0), (0, 0, 0), None, (-1, 1, 0), 1, ['up', 'stay'], ['stay'], (0, 0, 0), False]
"""

READINGS = """
>>> from heldtones.books import Book
>>> from heldtones.readings import read_book, read_ratio
>>> from heldtones.texts import show_book, show_ratio
>>> book = Book([("c", [(0, 0, 0), (-1, 1, 0)])], [("up", "c", 1, "c", 0)])
>>> [show_ratio((-4, 4, -1)), show_book(book), read_ratio("0,-1,12"), read_book(show_book(book)) == book, show_book(Book([], []))]
['-4,4,-1', 'chord c 0,0,0 -1,1,0; up: c.1 = c.0', (0, -1, 12), True, '']
"""


class ExamplesTest(unittest.TestCase):
    def check(self, text, head):
        test = doctest.DocTestParser().get_doctest(text, {}, head, None, 0)
        shown = []
        result = doctest.DocTestRunner(verbose=False).run(test, out=shown.append)
        self.assertEqual(result.failed, 0, "".join(shown))
        self.assertGreater(result.attempted, 0)

    def test_ratios(self):
        self.check(RATIOS, "ratios")

    def test_books(self):
        self.check(BOOKS, "books")

    def test_pitches(self):
        self.check(PITCHES, "pitches")

    def test_drifts(self):
        self.check(DRIFTS, "drifts")

    def test_heights(self):
        self.check(HEIGHTS, "heights")

    def test_singers(self):
        self.check(SINGERS, "singers")

    def test_texts_and_readings(self):
        self.check(READINGS, "readings")

    def test_readme(self):
        with open(README, encoding="utf-8") as file:
            self.check(file.read().replace("```", ""), "README.md")


if __name__ == "__main__":
    unittest.main()
