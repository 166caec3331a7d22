"""Answers that stay as they are where the document lets any of several be told, and their work.

A book tells the same, whatever is done for the time that it takes; and a question that is asked
some ten thousand times takes no more steps than it must.
"""

import random
import sys
import unittest

from heldtones import drifts, heights, pitches
from heldtones.books import Book, changes_of
from heldtones.drifts import can_come, lattice, rests
from heldtones.errors import NotEven
from heldtones.heights import highest
from heldtones.pitches import even_numbers, is_even, judge_weights, weights
from heldtones.readings import read_book
from heldtones.texts import show_book
from tests.cases import ErrorCase
from tests.drawn import UNISON, changes_in, draw, draw_even

# Texts of books, each with questions: the name of a function, what is handed in behind the book,
# and what is told.
BOOKS = [
    ("chord c 0,0,0 -2,0,1 -1,1,0 1,1,-1 2,-1,0; chord g 0,0,0 -2,0,1 -1,1,0 1,1,-1 2,-1,0; chord d 0,0,0 "
     "-2,0,1 -1,1,0 1,1,-1 2,-1,0; chord a 0,0,0 -2,0,1 -1,1,0 1,1,-1 2,-1,0; up: c.1 = g.0; upup: g.0 = "
     "c.1; u: g.1 = d.2; down: d.2 = g.1; do: d.0 = a.4; stay: a.4 = d.0; held: c.0 = c.0",
     [("even_numbers", ("up",), [("up", 1), ("upup", 1)]),
      ("even_numbers", ("upup",), [("up", 1), ("upup", 1)]),
      ("even_numbers", ("u",), [("u", 1), ("down", 1)]),
      ("even_numbers", ("down",), [("u", 1), ("down", 1)]),
      ("even_numbers", ("do",), [("do", 1), ("stay", 1)]),
      ("even_numbers", ("stay",), [("do", 1), ("stay", 1)]),
      ("even_numbers", ("held",), [("held", 1)]),
      ("rests", ("c", "a", (0, 0, 0)), (0, (1, 0, 0), [("c", 0), ("g", 2), ("d", 3), ("a", 5)])),
      ("rests", ("a", "c", (-1, 1, 0)), (0, (1, 0, 0), [("c", -5), ("g", -3), ("d", -2), ("a", 0)])),
      ("rests", ("c", "c", (1, 0, -1)), (0, (1, 0, 0), [("c", 0), ("g", 2), ("d", 3), ("a", 5)])),
      ("rests", ("c", "a", (3, -2, 1)), (0, (1, 0, 0), [("c", 0), ("g", 2), ("d", 3), ("a", 5)])),
      ("rests", ("c", "c", (0, -3, 2)), (0, (0, 1, 0), [("c", 0), ("g", 0), ("d", 1), ("a", 0)])),
      ("highest_song", ("c",), ["up"]),
      ("highest_song", ("a",), ["stay", "down"]),
      ("lowest_song", ("c",), ["up", "u", "do"]),
      ("lowest_song", ("a",), [])]),
    ("chord c 0,-1,-1 -1,1,1 0,1,1; chord g -1,0,1 -1,1,1 -1,-1,-1; chord d -1,1,1 -1,0,0 -1,-1,-1; up: "
     "d.1 = d.0; down: d.0 = d.1; to: c.2 = c.2; fro: g.1 = c.0; far: c.2 = g.2; near: c.2 = d.1; stay: "
     "d.1 = c.0",
     [("even_numbers", ("up",), [("up", 1), ("down", 1)]),
      ("even_numbers", ("down",), [("up", 1), ("down", 1)]),
      ("even_numbers", ("to",), [("to", 1)]),
      ("even_numbers", ("fro",), [("up", 4), ("fro", 1), ("far", 1)]),
      ("even_numbers", ("far",), [("up", 4), ("fro", 1), ("far", 1)]),
      ("even_numbers", ("near",), [("up", 2), ("near", 1), ("stay", 1)]),
      ("even_numbers", ("stay",), [("up", 2), ("near", 1), ("stay", 1)]),
      ("rests", ("c", "d", (0, 0, 0)), (0, (1, 0, 0), [("c", 0), ("g", -1), ("d", -1)])),
      ("rests", ("d", "c", (-1, 1, 0)), (0, (0, -1, 1), [("c", 0), ("g", 0), ("d", 0)])),
      ("rests", ("c", "c", (1, 0, -1)), (0, (1, 0, 0), [("c", 0), ("g", -1), ("d", -1)])),
      ("rests", ("c", "d", (3, -2, 1)), (0, (1, 0, 0), [("c", 0), ("g", -1), ("d", -1)])),
      ("rests", ("c", "c", (0, -3, 2)), (0, (0, -1, 1), [("c", 0), ("g", 0), ("d", 0)])),
      ("rising", ("c",), ([], ["far", "fro"])),
      ("rising", ("d",), ([], ["down"])),
      ("sinking", ("c",), (["near"], ["up"])),
      ("sinking", ("d",), ([], ["up"]))]),
    ("chord c 1,-1,0 0,-1,0 1,-1,-1; chord g -1,1,-1 0,0,1 -1,1,0; chord d 1,0,-1 -1,0,-1 0,-1,0; up: d.0 "
     "= g.2; down: g.2 = c.2; to: g.0 = d.1; fro: c.0 = g.0; far: d.0 = c.1; near: c.2 = g.0; stay: d.1 = "
     "d.0",
     [("even_numbers", ("up",), [("up", 2), ("down", 1), ("to", 2), ("fro", 1), ("stay", 2)]),
      ("even_numbers", ("down",), [("up", 1), ("down", 1), ("to", 1), ("near", 1), ("stay", 1)]),
      ("even_numbers", ("to",), [("up", 2), ("down", 1), ("to", 2), ("fro", 1), ("stay", 2)]),
      ("even_numbers", ("fro",), [("up", 2), ("down", 1), ("to", 2), ("fro", 1), ("stay", 2)]),
      ("even_numbers", ("far",), [("to", 2), ("fro", 2), ("far", 2), ("stay", 3)]),
      ("even_numbers", ("near",), [("down", 2), ("to", 2), ("far", 2), ("near", 4), ("stay", 3)]),
      ("even_numbers", ("stay",), [("up", 2), ("down", 1), ("to", 2), ("fro", 1), ("stay", 2)]),
      ("rests", ("c", "d", (0, 0, 0)), (0, (0, 1, 0), [("c", 0), ("g", 2), ("d", 1)])),
      ("come_numbers", ("d", "c", (-1, 1, 0)), [("down", 1), ("far", 1), ("near", 1), ("stay", 1)]),
      ("come_numbers",
       ("c", "c", (1, 0, -1)),
       [("up", 3), ("down", 3), ("to", 6), ("fro", 2), ("far", 3), ("near", 4), ("stay", 7)]),
      ("rests", ("c", "d", (3, -2, 1)), (0, (0, 1, 0), [("c", 0), ("g", 2), ("d", 1)])),
      ("rests", ("c", "c", (0, -3, 2)), (0, (0, 1, 0), [("c", 0), ("g", 2), ("d", 1)])),
      ("rising", ("c",), ([], ["fro", "down"])),
      ("rising", ("d",), ([], ["far", "fro", "to"])),
      ("sinking", ("c",), (["near"], ["to", "up"])),
      ("sinking", ("d",), ([], ["stay"]))]),
    ("chord c -1,0,0 1,-1,0 1,1,1; chord g -1,1,-1 0,-1,0 1,-1,-1; chord d -1,0,0 0,-1,1 1,0,-1; up: c.0 "
     "= g.1; down: c.1 = c.1; to: d.2 = c.0; fro: c.2 = d.0; far: d.1 = c.1; near: c.0 = c.2; stay: g.0 = "
     "c.1",
     [("even_numbers",
       ("up",),
       [("up", 1), ("to", 13), ("fro", 30), ("far", 17), ("near", 33), ("stay", 1)]),
      ("even_numbers", ("down",), [("down", 1)]),
      ("even_numbers",
       ("to",),
       [("up", 1), ("to", 13), ("fro", 30), ("far", 17), ("near", 33), ("stay", 1)]),
      ("even_numbers",
       ("fro",),
       [("up", 1), ("to", 13), ("fro", 30), ("far", 17), ("near", 33), ("stay", 1)]),
      ("even_numbers",
       ("far",),
       [("up", 1), ("to", 13), ("fro", 30), ("far", 17), ("near", 33), ("stay", 1)]),
      ("even_numbers",
       ("near",),
       [("up", 1), ("to", 13), ("fro", 30), ("far", 17), ("near", 33), ("stay", 1)]),
      ("even_numbers",
       ("stay",),
       [("up", 1), ("to", 13), ("fro", 30), ("far", 17), ("near", 33), ("stay", 1)]),
      ("come_numbers", ("c", "d", (0, 0, 0)), [("fro", 1), ("near", 1)]),
      ("come_numbers",
       ("d", "c", (-1, 1, 0)),
       [("up", 1), ("down", 1), ("to", 9), ("fro", 20), ("far", 12), ("near", 22), ("stay", 1)]),
      ("come_numbers",
       ("c", "c", (1, 0, -1)),
       [("up", 1), ("down", 1), ("to", 13), ("fro", 29), ("far", 16), ("near", 32), ("stay", 1)]),
      ("come_numbers", ("c", "d", (3, -2, 1)), [("to", 10), ("fro", 24), ("far", 13), ("near", 26)]),
      ("come_numbers", ("c", "c", (0, -3, 2)), [("to", 11), ("fro", 27), ("far", 16), ("near", 30)]),
      ("rising", ("c",), ([], ["fro", "far"])),
      ("rising", ("d",), ([], ["far", "fro"])),
      ("sinking", ("c",), ([], ["near"])),
      ("sinking", ("d",), (["to"], ["near"]))]),
    ("chord g 1,1,-1 1,1,1 -1,0,0; chord e 0,1,0; far: e.0 = e.0; down: e.0 = e.0; stay: g.1 = e.0; fro: "
     "e.0 = g.0; up: e.0 = e.0; to: g.1 = e.0",
     [("even_numbers", ("far",), [("far", 1)]),
      ("even_numbers", ("down",), [("down", 1)]),
      ("weights", ("stay",), ((-1, -1, 1), [("g", -1), ("e", 1)])),
      ("weights", ("fro",), ((1, -1, 1), [("g", 1), ("e", -1)])),
      ("even_numbers", ("up",), [("up", 1)]),
      ("weights", ("to",), ((-1, -1, 1), [("g", -1), ("e", 1)])),
      ("lowest_song", ("g",), []),
      ("lowest_song", ("e",), []),
      ("rising", ("g",), ([], ["stay", "fro"])),
      ("rising", ("e",), ([], ["fro", "stay"]))]),
    ("chord g 1,1,1 1,0,0 0,0,1; chord a 0,1,0 0,-1,-1 0,1,-1; near: a.1 = g.0; fro: g.2 = a.0; up: a.0 = "
     "a.0; to: a.0 = a.0; far: g.0 = a.0; down: g.0 = a.2",
     [("weights", ("near",), ((-1, -1, -1), [("g", -4), ("a", -1)])),
      ("weights", ("fro",), ((-2, -2, 1), [("g", -2), ("a", 2)])),
      ("even_numbers", ("up",), [("up", 1)]),
      ("even_numbers", ("to",), [("to", 1)]),
      ("weights", ("far",), ((2, -2, -1), [("g", -2), ("a", 2)])),
      ("weights", ("down",), ((-2, -1, 1), [("g", -1), ("a", 1)])),
      ("highest_song", ("g",), ["down"]),
      ("highest_song", ("a",), []),
      ("sinking", ("g",), ([], ["fro", "near"])),
      ("sinking", ("a",), ([], ["near", "fro"]))]),
    ("chord c 1,1,-1 0,1,0 1,-1,0; chord g 0,1,-1 -1,1,0 1,1,0; up: g.0 = c.2; down: c.2 = g.0; to: c.2 = "
     "c.0; fro: g.1 = c.1; far: g.1 = g.2; near: g.1 = c.0; stay: c.1 = c.0",
     [("even_numbers", ("up",), [("up", 1), ("down", 1)]),
      ("even_numbers", ("down",), [("up", 1), ("down", 1)]),
      ("weights", ("to",), ((-1, -1, 1), [("c", 1), ("g", -1)])),
      ("weights", ("fro",), ((-1, -1, 1), [("c", 1), ("g", -1)])),
      ("weights", ("far",), ((-1, -1, -1), [("c", -1), ("g", -1)])),
      ("weights", ("near",), ((-1, -1, 1), [("c", 1), ("g", -1)])),
      ("weights", ("stay",), ((-1, 0, 1), [("c", -1), ("g", -1)]))]),
    ("chord c 0,1,0 1,0,0 -1,0,1; chord g -1,1,1 -1,-1,-1 0,1,0; up: c.0 = c.0; down: c.2 = g.1; to: g.1 "
     "= c.2; fro: g.2 = c.1; far: c.2 = c.0; near: c.1 = c.0; stay: g.1 = g.0",
     [("even_numbers", ("up",), [("up", 1)]),
      ("even_numbers", ("down",), [("down", 1), ("to", 1)]),
      ("even_numbers", ("to",), [("down", 1), ("to", 1)]),
      ("weights", ("fro",), ((-2, -2, 2), [("c", 1), ("g", -1)])),
      ("weights", ("far",), ((-1, -1, 1), [("c", 0), ("g", -1)])),
      ("weights", ("near",), ((0, -1, 1), [("c", 0), ("g", -1)])),
      ("weights", ("stay",), ((-2, -2, 1), [("c", -2), ("g", -2)]))]),
    ("chord c -1,0,1 1,0,1 0,1,-1; chord g -1,-1,0 1,-1,0 1,-1,-1; chord d -1,0,-1 0,-1,-1 -1,-1,0; up: "
     "d.1 = d.2; down: d.0 = g.1; to: g.0 = c.2; fro: d.1 = g.1; far: c.0 = d.0; near: g.1 = d.0; stay: "
     "g.0 = d.0",
     [("weights", ("up",), ((0, -2, -1), [("c", -3), ("g", 0), ("d", -1)])),
      ("even_numbers", ("down",), [("down", 1), ("near", 1)]),
      ("weights", ("to",), ((-1, -1, -1), [("c", -1), ("g", -1), ("d", 1)])),
      ("weights", ("fro",), ((0, -1, 0), [("c", -1), ("g", 0), ("d", -1)])),
      ("weights", ("far",), ((0, -2, 0), [("c", -1), ("g", 3), ("d", 1)])),
      ("even_numbers", ("near",), [("down", 1), ("near", 1)]),
      ("weights", ("stay",), ((-1, -1, -1), [("c", -1), ("g", -1), ("d", 1)]))]),
]


def ask(book, name, values):
    for module in (pitches, drifts, heights):
        if name in vars(module):
            return getattr(module, name)(book, *values)
    raise AssertionError(name)


def many_calls(question, *values):
    """How many functions are called for a question."""
    calls = [0]

    def count(_frame, event, _value):
        calls[0] += event in ("call", "c_call")

    before = sys.getprofile()
    sys.setprofile(count)
    try:
        question(*values)
    except NotEven:
        pass
    finally:
        sys.setprofile(before)
    return calls[0]


class SameTest(unittest.TestCase):
    def test_told_as_ever(self):
        for text, asked in BOOKS:
            book = read_book(text)
            for name, values, told in asked:
                self.assertEqual(ask(book, name, values), told, (text, name, values))

    def test_told_as_ever_the_other_way_round(self):
        for text, asked in BOOKS[::-1]:
            for name, values, told in asked[::-1]:
                self.assertEqual(ask(read_book(text), name, values), told, (text, name, values))


class EvenTogetherTest(ErrorCase):
    def test_all_at_once_as_each_alone(self):
        source = random.Random(111)
        seen = {True: 0, False: 0}
        behind = 0
        for turn in range(600):
            book = draw_even(source, 1 + turn % 4) if turn % 4 == 0 else draw(
                source, turn % 3, chords=1 + turn % 4)
            for chord, _ in book.chords:
                names = changes_in(book, chord)
                bad = [name for name in names if even_numbers(book, name) is None]
                seen[bad == []] += 1
                self.assertIs(is_even(book, chord), bad == [])
                if bad:
                    behind += bad[0] != names[0]
                    self.check_error(NotEven, bad[0], lattice, book, chord)
                    self.check_error(NotEven, bad[0], rests, book, chord, chord, UNISON)
        self.assertGreater(min(seen.values()), 100)
        self.assertGreater(behind, 20)


class WorkTest(unittest.TestCase):
    """The bounds are far above what is needed, and far below what asking of each change takes."""

    def check(self, most, question, *values):
        self.assertLessEqual(many_calls(question, *values), most, question.__name__)

    def test_the_answers_that_took_long(self):
        book = read_book(BOOKS[0][0])
        flat = (UNISON, [(name, 0) for name, _ in book.chords])
        self.check(300, is_even, book, "c")
        self.check(450, lattice, book, "c")
        self.check(450, can_come, book, "c", "a", (0, 0, 1))
        self.check(450, rests, book, "c", "a", (0, 0, 1))
        for name in changes_of(book, "c"):
            self.check(300, even_numbers, book, name)
            self.check(300, weights, book, name)
            self.check(140, judge_weights, book, name, flat)
        for chord, _ in book.chords:
            self.check(330, highest, book, chord)

    def test_drawn(self):
        source = random.Random(112)
        for turn in range(200):
            book = draw_even(source, 1 + turn % 4) if turn % 2 else draw(source, 1 + turn % 4)
            for chord, _ in book.chords:
                self.check(400, is_even, book, chord)
                self.check(900, lattice, book, chord)

    def test_a_book_keeps_nothing(self):
        # What was worked out for an answer is not there for the next one.
        book = read_book(BOOKS[3][0])
        kept = {name: str(value) for name, value in vars(book).items()}
        once = many_calls(lattice, book, "c")
        for _ in range(3):
            self.assertEqual(many_calls(lattice, book, "c"), once)
            is_even(book, "c")
            even_numbers(book, "up")
        self.assertEqual({name: str(value) for name, value in vars(book).items()}, kept)
        self.assertEqual(read_book(show_book(book)), Book(book.chords, book.changes))


if __name__ == "__main__":
    unittest.main()
