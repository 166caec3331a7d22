"""Readings [3]: read_ratio and read_book of texts, and which texts are none."""

import inspect
import itertools
import random
import re
import unittest

from heldtones.books import Book
from heldtones.errors import Unreadable
from heldtones.readings import read_book, read_ratio
from heldtones.texts import show_book, show_ratio
from tests.cases import ErrorCase
from tests.drawn import UNISON, draw

FIFTH = (-1, 1, 0)
SIGNS = [chr(code) for code in range(32, 127) if chr(code) != "%"]
INTEGER = re.compile(r"0|-?[1-9][0-9]?")


class ReadRatioTest(ErrorCase):
    def test_ordinary(self):
        for text, ratio in [
            ("0,0,0", UNISON), ("0,-1,12", (0, -1, 12)), ("-4,4,-1", (-4, 4, -1)),
            ("99,-99,10", (99, -99, 10)), ("-10,1,-9", (-10, 1, -9)), ("90,20,-30", (90, 20, -30)),
        ]:
            told = read_ratio(text)
            self.assertEqual(told, ratio)
            self.assertEqual([type(told)] + [type(part) for part in told], [tuple] + [int] * 3)
            self.assertEqual(read_ratio(text=text), ratio)

    def test_all_integers(self):
        for number in range(-99, 100):
            for ratio in [(number, 0, 1), (2, number, -3), (-1, 5, number)]:
                self.assertEqual(read_ratio(show_ratio(ratio)), ratio)

    def test_integers_that_are_none(self):
        for word in ["", "-", "-0", "00", "01", "-01", "-00", "007", "010", "100", "-100", "123", "+1",
                     "+0", "--1", "1-", "- 1", "-1 ", " 1", "1 ", " ", "1.0", "1e1", "1_0", "0x1", "a",
                     "~", "1,", "1;", "1/2", "(1)", "\"1\"", "9" * 900]:
            for text in [word + ",0,0", "0," + word + ",0", "0,0," + word, ",".join([word] * 3)]:
                self.check_error(Unreadable, text, read_ratio, text)
                self.check_error(Unreadable, text, read_ratio, text=text)

    def test_signs_of_other_scripts(self):
        for word in ["\u0661", "\u00b2", "\uff11", "1\n", "\t1", "\u22121"]:
            self.check_error(Unreadable, word + ",0,0", read_ratio, word + ",0,0")

    def test_more_or_fewer_exponents(self):
        for text in ["", "0", "0,0", "0,0,0,0", ",", ",,", ",,,", "0,0,", ",0,0", "0,0,0,", ",0,0,0",
                     "0 0 0", "0, 0, 0", "0,0,0 ", " 0,0,0", "0;0;0", "0.0.0", "(0,0,0)", "x" * 3000,
                     ",".join(["0"] * 1500), "0,0,0; 0,0,0", "chord c", "1,1,1 1,1,1"]:
            self.check_error(Unreadable, text, read_ratio, text)

    def test_each_sign_in_each_place(self):
        text = "-1,20,-34"
        whole = re.compile("({0}),({0}),({0})".format(INTEGER.pattern))
        seen = [0, 0]
        for place in range(len(text) + 1):
            for other in [text[:place] + text[place + 1:]] + [
                    told for sign in SIGNS for told in (text[:place] + sign + text[place:],
                                                        text[:place] + sign + text[place + 1:])]:
                match = whole.fullmatch(other)
                seen[match is None] += 1
                if match:
                    ratio = tuple(int(word) for word in match.groups())
                    self.assertEqual(read_ratio(other), ratio)
                else:
                    self.check_error(Unreadable, other, read_ratio, other)
        self.assertGreater(min(seen), 50)


class ReadBookTest(ErrorCase):
    def check_none(self, *texts):
        for text in texts:
            self.check_error(Unreadable, text, read_book, text)
            self.check_error(Unreadable, text, read_book, text=text)

    def test_the_empty_text(self):
        self.assertEqual(read_book(""), Book([], []))
        self.assertIs(type(read_book(text="")), Book)

    def test_ordinary(self):
        for text, chords, changes in [
            ("chord c", [("c", [])], []),
            ("chord c 0,0,0", [("c", [UNISON])], []),
            ("chord chord; chord c", [("chord", []), ("c", [])], []),
            ("chord g 0,0,0 -1,1,0; chord c 5,5,5; up: c.0 = g.1; at: g.1 = g.0",
             [("g", [UNISON, FIFTH]), ("c", [(5, 5, 5)])],
             [("up", "c", 0, "g", 1), ("at", "g", 1, "g", 0)]),
            ("chord chord 0,0,0; chord: chord.0 = chord.0",
             [("chord", [UNISON])], [("chord", "chord", 0, "chord", 0)]),
        ]:
            book = read_book(text)
            self.assertEqual((book.chords, book.changes), (chords, changes))
            self.assertEqual(book, Book(chords, changes))
            self.assertEqual(show_book(book), text)

    def test_the_document(self):
        book = Book([("c", [UNISON, FIFTH])], [("up", "c", 1, "c", 0)])
        self.assertEqual(read_book("chord c 0,0,0 -1,1,0; up: c.1 = c.0"), book)

    def test_more_tones_than_ten(self):
        book = Book([("c", [(k, 0, 0) for k in range(12)])], [("up", "c", 11, "c", 10)])
        self.assertEqual(read_book(show_book(book)), book)
        text = show_book(book)
        self.check_none(text.replace(".11", ".12"), text.replace(".10", ".010"),
                        text.replace(".10", ".00"), text.replace(".10", ".100"))

    def test_an_index_of_more_than_two_digits(self):
        tones = [(k // 10, k % 10, 0) for k in range(101)]
        text = show_book(Book([("c", tones)], [("up", "c", 99, "c", 0)]))
        self.assertEqual(show_book(read_book(text)), text)
        self.check_none(text.replace("c.99", "c.100"))

    def test_spaces_and_signs(self):
        self.check_none(
            " ", "  ", ";", "; ", " ;", "chord", "chord ", "chord  ", "chord  c", "chord c ", " chord c",
            "chord c;", "chord c; ", "; chord c", "chord c;chord d", "chord c;  chord d",
            "chord c ; chord d", "chord c, chord d", "chord c; ; chord d", "chord c; chord",
            "Chord c", "chords c", "chor c", "chordc", "chord: c", "chord c:", "chord c.", "c", "c 0,0,0",
            "chord c  0,0,0", "chord c 0,0,0 ", "chord c 0,0,0  1,0,0", "chord c 0,0,0,1,0,0",
            "chord c 0, 0, 0", "chord c 0,0", "chord c 0,0,0,0", "chord c 0 0 0", "chord c (0,0,0)",
            "0,0,0", "chord 0,0,0", "chord 0,0,0 c", "chord c\n", "chord c d", "chord c d 0,0,0",
        )

    def test_integers(self):
        for word in ["00", "01", "-0", "-01", "+1", "100", "-100", "--1", "", "-", "a", "1.0", " 1"]:
            self.check_none(f"chord c {word},0,0", f"chord c 0,0,0 1,{word},0", f"chord c 0,0,{word}")
            self.check_none(f"chord c 0,0,0 1,0,0; up: c.{word} = c.0",
                            f"chord c 0,0,0 1,0,0; up: c.0 = c.{word}")

    def test_changes_as_they_are_not_written(self):
        chord = "chord c 0,0,0 1,0,0; "
        self.assertEqual(len(read_book(chord + "up: c.0 = c.1")), 1)
        self.check_none(*[chord + text for text in [
            "up", "up:", "up: ", "up: c.0", "up: c.0 =", "up: c.0 = ", "up: c.0 = c", "up: c.0 = c.",
            "up: c.0 = .1", "up: c = c.1", "up:c.0 = c.1", "up : c.0 = c.1", "up c.0 = c.1",
            "up:: c.0 = c.1", "up; c.0 = c.1", "up. c.0 = c.1", ": c.0 = c.1", " up: c.0 = c.1",
            "up:  c.0 = c.1", "up: c.0  = c.1", "up: c.0 =  c.1", "up: c.0 = c.1 ", "up: c.0= c.1",
            "up: c.0 =c.1", "up: c.0=c.1", "up: c.0 == c.1", "up: c.0 - c.1", "up: c.0 > c.1",
            "up: c.0 : c.1", "up: c0 = c1", "up: c.0. = c.1", "up: c..0 = c.1", "up: c:0 = c.1",
            "up: c .0 = c.1", "up: c. 0 = c.1", "up: c.0 = c.1;", "up: c.0 = c.1; ",
            "up: c.0 = c.1 = c.1", "up: c.0.0 = c.1", "up: c.0 c.1 =", "= up: c.0 c.1",
            "up: 0.c = 1.c", "c.0 = c.1", "up: up: c.0 = c.1", "chord up: c.0 = c.1",
        ]])

    def test_changes_ahead_of_chords(self):
        self.check_none("up: c.0 = c.0; chord c 0,0,0",
                        "chord c 0,0,0; up: c.0 = c.0; chord d",
                        "chord c 0,0,0; up: c.0 = c.0; chord d; down: c.0 = c.0",
                        "chord: c.0 = c.0; chord c 0,0,0")

    def test_names_that_are_none(self):
        for name in ["", "abcdefghi", "C", "c1", "1", "c-d", "_", "~", "{", "`", "@", "c:", "c,", "c;",
                     "=", "x" * 2900, "\u00e9"]:
            self.check_none(f"chord {name} 0,0,0", f"chord c 0,0,0; {name}: c.0 = c.0",
                            f"chord c 0,0,0; up: {name}.0 = c.0", f"chord c 0,0,0; up: c.0 = {name}.0")

    def test_what_stands_twice(self):
        self.check_none("chord c; chord c", "chord c 0,0,0; chord c 1,1,1", "chord a; chord c; chord a",
                        "chord c 0,0,0 0,0,0", "chord c; chord d 1,0,0 -1,1,0 1,0,0",
                        "chord c 0,0,0; up: c.0 = c.0; up: c.0 = c.0",
                        "chord c 0,0,0 1,0,0; up: c.0 = c.0; on: c.1 = c.0; up: c.1 = c.1")

    def test_chords_and_tones_that_are_none(self):
        self.check_none("up: c.0 = c.0", "chord c; up: c.0 = c.0", "chord c 0,0,0; up: d.0 = c.0",
                        "chord c 0,0,0; up: c.0 = d.0", "chord c 0,0,0; up: up.0 = c.0",
                        "chord c 0,0,0; up: c.1 = c.0", "chord c 0,0,0; up: c.0 = c.1",
                        "chord c 0,0,0; up: c.-1 = c.0", "chord c 0,0,0; up: c.0 = c.-1",
                        "chord c 0,0,0; chord d; up: c.0 = d.0")

    def test_the_value_is_the_whole_text(self):
        # Not the part of it in which the error is.
        self.check_none("chord c 0,0,0 01,0,0; up: c.0 = c.1", "chord c 0,0,0; up: c.0 = c.01")

    def test_long_texts(self):
        self.check_none("x" * 3000, ";" * 3000, "; " * 1500, " " * 3000, "chord " * 500,
                        "chord c; " * 333, "chord c " + "0,0,0 " * 498, "." * 3000, "=" * 3000)

    def test_at_the_bounds(self):
        tones = [(9, -9, 10 + k) for k in range(8)]
        names = ["chord" + sign for sign in "abcdefghijkl"]
        ways = [("change" + sign, "chordl", 7, "chorda", 0) for sign in "abcdefghijklmnopqrst"]
        book = Book([(name, tones) for name in names], ways)
        self.assertEqual(read_book(show_book(book)), book)

    def test_each_sign_in_each_place(self):
        text = "chord c 0,0,0 -1,1,0; chord d 10,2,3; up: c.1 = d.0; at: d.0 = d.0"
        chord = re.compile(r"chord [a-z]{{1,8}}( ({0}),({0}),({0}))*".format(INTEGER.pattern))
        change = re.compile(r"[a-z]{{1,8}}: [a-z]{{1,8}}\.({0}) = [a-z]{{1,8}}\.({0})".format(
            INTEGER.pattern))
        seen = [0, 0]
        for place in range(len(text) + 1):
            for other in [text[:place] + text[place + 1:]] + [
                    told for sign in SIGNS for told in (text[:place] + sign + text[place:],
                                                        text[:place] + sign + text[place + 1:])]:
                right = self.is_book(other, chord, change)
                seen[right] += 1
                if right:
                    self.assertEqual(show_book(read_book(other)), other)
                else:
                    self.check_error(Unreadable, other, read_book, other)
        self.assertGreater(min(seen), 300)

    def is_book(self, text, chord, change):
        """Whether a book has a text, of which the forms of chords and changes are handed in."""
        items = text.split("; ")
        chords = list(itertools.takewhile(chord.fullmatch, items))
        changes = items[len(chords):]
        if not all(change.fullmatch(item) for item in changes):
            return False
        table = {item.split(" ")[1]: item.split(" ")[2:] for item in chords}
        ends = [end.split(".") for item in changes for end in item.split(" ")[1::2]]
        return (len(table) == len(chords)
                and all(len(set(tones)) == len(tones) for tones in table.values())
                and len({item.split(":")[0] for item in changes}) == len(changes)
                and all(name in table and 0 <= int(at) < len(table[name]) for name, at in ends))

    def test_drawn(self):
        source = random.Random(82)
        for turn in range(200):
            book = draw(source, 1 + turn % 99)
            again = read_book(show_book(book))
            self.assertEqual(again, book)
            self.assertEqual((again.chords, again.changes), (book.chords, book.changes))

    def test_books_that_are_read_are_kept_apart(self):
        text = "chord c 0,0,0; up: c.0 = c.0"
        one, other = read_book(text), read_book(text)
        self.assertIsNot(one, other)
        one.chords[0][1].clear()
        one["c"].clear()
        self.assertEqual((one, show_book(one)), (other, text))

    def test_names_of_arguments(self):
        for ask in (read_ratio, read_book):
            self.assertEqual(list(inspect.signature(ask).parameters), ["text"])


if __name__ == "__main__":
    unittest.main()
