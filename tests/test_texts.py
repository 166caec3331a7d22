"""Texts of ratios and books: show_ratio and show_book."""

import inspect
import itertools
import random
import unittest

from heldtones.books import Book
from heldtones.ratios import times
from heldtones.texts import show_book, show_ratio
from tests.drawn import UNISON, draw

FIFTH = (-1, 1, 0)


class ShowRatioTest(unittest.TestCase):
    def test_ordinary(self):
        for ratio, text in [
            (UNISON, "0,0,0"), ((-4, 4, -1), "-4,4,-1"), ((0, -1, 12), "0,-1,12"),
            ((99, -99, 10), "99,-99,10"), ((200, -200, 100), "200,-200,100"),
        ]:
            self.assertEqual(show_ratio(ratio), text)
            self.assertEqual(show_ratio(ratio=ratio), text)

    def test_greater_ones(self):
        self.assertEqual(show_ratio(times((11880, -11880, 0), (0, -120, -300))), "11880,-12000,-300")

    def test_each_exponent_in_its_place(self):
        for ratio in itertools.product((-10, -1, 0, 7), repeat=3):
            self.assertEqual(tuple(int(word) for word in show_ratio(ratio).split(",")), ratio)


class ShowBookTest(unittest.TestCase):
    def test_nothing(self):
        text = show_book(Book([], []))
        self.assertEqual((text, type(text)), ("", str))

    def test_chords_alone(self):
        self.assertEqual(show_book(Book([("c", [])], [])), "chord c")
        self.assertEqual(show_book(Book([("c", [FIFTH]), ("abcdefgh", []), ("b", [UNISON, FIFTH])], [])),
                         "chord c -1,1,0; chord abcdefgh; chord b 0,0,0 -1,1,0")

    def test_changes_in_order(self):
        book = Book([("g", [UNISON, FIFTH]), ("c", [UNISON])],
                    [("up", "c", 0, "g", 1), ("down", "g", 0, "c", 0), ("at", "g", 1, "g", 0)])
        self.assertEqual(show_book(book), "chord g 0,0,0 -1,1,0; chord c 0,0,0; up: c.0 = g.1; "
                                          "down: g.0 = c.0; at: g.1 = g.0")
        turned = Book(book.chords[::-1], book.changes[::-1])
        self.assertEqual(show_book(book=turned), "chord c 0,0,0; chord g 0,0,0 -1,1,0; at: g.1 = g.0; "
                                                 "down: g.0 = c.0; up: c.0 = g.1")

    def test_a_change_and_chords_called_alike(self):
        book = Book([("chord", [UNISON])], [("chord", "chord", 0, "chord", 0)])
        self.assertEqual(show_book(book), "chord chord 0,0,0; chord: chord.0 = chord.0")

    def test_an_index_of_two_digits(self):
        tones = [(k, 0, 0) for k in range(12)]
        text = show_book(Book([("c", tones)], [("up", "c", 11, "c", 10)]))
        self.assertTrue(text.endswith(" 10,0,0 11,0,0; up: c.11 = c.10"))

    def test_at_the_bounds(self):
        tones = [(99, -99, 10 + k) for k in range(8)]
        names = ["chord" + sign for sign in "abcdefghijkl"]
        ways = [("change" + sign, "chordl", 7, "chorda", 0) for sign in "abcdefghijklmnopqrst"]
        parts = show_book(Book([(name, tones) for name in names], ways)).split("; ")
        self.assertEqual(len(parts), 32)
        self.assertEqual(parts[11], "chord chordl 99,-99,10 99,-99,11 99,-99,12 99,-99,13 "
                                    "99,-99,14 99,-99,15 99,-99,16 99,-99,17")
        self.assertEqual(parts[31], "changet: chordl.7 = chorda.0")

    def test_a_book_stays_as_it_is(self):
        source = random.Random(81)
        for _ in range(50):
            book = draw(source)
            same = Book(book.chords, book.changes)
            self.assertEqual(show_book(book), show_book(book))
            self.assertEqual(book, same)

    def test_names_of_arguments(self):
        for ask, name in [(show_ratio, "ratio"), (show_book, "book")]:
            self.assertEqual(list(inspect.signature(ask).parameters), [name])


if __name__ == "__main__":
    unittest.main()
