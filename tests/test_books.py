"""Books [2], [4]: their construction and its errors, their properties and methods."""

import unittest
from unittest import mock

from heldtones.books import Book
from heldtones.errors import (
    DoubleName, DoubleTone, InvalidName, InvalidTone, UnknownChange, UnknownChord,
)
from tests.cases import ErrorCase

ONE, FIFTH, THIRD = (0, 0, 0), (-1, 1, 0), (-2, 0, 1)
# Texts that are no names: empty, too long, or with other signs than letters from a to z.
NO_NAMES = ["", "abcdefghi", "C", "cA", "c1", "1", "c d", " c", "c ", "c.", "_", "a-b", "~", "`",
            "{", "@", "[", "abcdefg8", "x" * 3000, "'", "\"", "\\"]


def chords():
    return [("c", [ONE, FIFTH]), ("g", [ONE, THIRD, FIFTH]), ("rest", [])]


def changes():
    return [("up", "c", 1, "g", 0), ("down", "g", 0, "c", 1), ("stay", "c", 0, "c", 0),
            ("wide", "g", 2, "g", 1)]


class ConstructionTest(ErrorCase):
    def test_chords_and_changes_in_order(self):
        book = Book(chords(), changes())
        self.assertEqual(book.chords, chords())
        self.assertEqual(book.changes, changes())
        turned = Book(chords()[::-1], changes()[::-1])
        self.assertEqual(turned.chords, chords()[::-1])
        self.assertEqual(turned.changes, changes()[::-1])

    def test_kinds_of_what_is_told(self):
        book = Book(chords(), changes())
        self.assertIs(type(book.chords), list)
        self.assertIs(type(book.changes), list)
        self.assertEqual({type(chord) for chord in book.chords + book.changes}, {tuple})
        self.assertEqual({type(tones) for _, tones in book.chords}, {list})
        self.assertEqual({type(tone) for _, tones in book.chords for tone in tones}, {tuple})

    def test_by_name(self):
        book = Book(changes=changes(), chords=chords())
        self.assertEqual((book.chords, book.changes), (chords(), changes()))

    def test_nothing_at_all(self):
        book = Book([], [])
        self.assertEqual((book.chords, book.changes, len(book)), ([], [], 0))

    def test_chords_without_tones_and_without_changes(self):
        book = Book([("a", []), ("b", [])], [])
        self.assertEqual((book.chords, book["a"], len(book)), ([("a", []), ("b", [])], [], 0))

    def test_length_is_the_number_of_changes(self):
        self.assertEqual(len(Book(chords(), [])), 0)
        self.assertEqual(len(Book(chords(), changes())), 4)

    def test_names_of_one_to_eight_letters(self):
        for name in ["a", "z", "abcdefgh", "zzzzzzzz", "mnopqrst"]:
            book = Book([(name, [ONE])], [(name, name, 0, name, 0)])
            self.assertEqual(book.changes, [(name, name, 0, name, 0)])

    def test_two_changes_between_the_same_chords(self):
        told = [("a", "c", 1, "g", 0), ("b", "c", 1, "g", 0), ("d", "g", 0, "c", 1)]
        self.assertEqual(Book(chords(), told).changes, told)

    def test_bounds(self):
        tones = [(99, -99, k) for k in range(8)]
        many = [("chord" + sign, tones) for sign in "abcdefghijkl"]
        told = [("change" + sign, "chorda", 7, "chordl", 0) for sign in "abcdefghijklmnopqrst"]
        book = Book(many, told)
        self.assertEqual((book.chords, book.changes, len(book)), (many, told, 20))
        self.assertEqual(book.shift("changet"), (0, 0, 7))

    def test_the_same_tone_may_stand_in_several_chords(self):
        self.assertEqual(Book([("a", [ONE]), ("b", [ONE])], []).chords, [("a", [ONE]), ("b", [ONE])])

    def test_a_book_is_not_iterated_over(self):
        with self.assertRaises(TypeError):
            iter(Book(chords(), changes()))


class KeptApartTest(ErrorCase):
    def test_lists_handed_in_stay_as_they_are(self):
        told, ways = chords(), changes()
        book = Book(told, ways)
        book.shift("up")
        book.without("up")
        book.backward()
        self.assertEqual((told, ways), (chords(), changes()))

    def test_lists_handed_in_stay_as_they_are_beside_an_error(self):
        told, ways = chords(), changes() + [("up", "c", 0, "c", 0)]
        with self.assertRaises(DoubleName):
            Book(told, ways)
        self.assertEqual((told, ways), (chords(), changes() + [("up", "c", 0, "c", 0)]))

    def test_later_changes_of_lists_handed_in_change_no_book(self):
        told, ways = chords(), changes()
        book = Book(told, ways)
        told[0][1].append(THIRD)
        told[1][1][0] = (7, 7, 7)
        told[2][1].extend([ONE, FIFTH])
        told.pop(0)
        told.append(("new", []))
        ways.clear()
        self.assertEqual((book.chords, book.changes), (chords(), changes()))
        self.assertEqual((book.shift("up"), book["rest"]), (FIFTH, []))

    def test_one_list_of_tones_for_two_chords_is_copied_for_each(self):
        tones = [ONE, FIFTH]
        book = Book([("a", tones), ("b", tones)], [])
        told = book.chords
        self.assertIsNot(told[0][1], told[1][1])
        told[0][1].append(THIRD)
        self.assertEqual(told[1][1], [ONE, FIFTH])
        self.assertEqual((book["a"], book["b"]), ([ONE, FIFTH], [ONE, FIFTH]))

    def test_told_lists_are_new(self):
        book = Book(chords(), changes())
        one, other = book.chords, book.chords
        one[0][1].append(THIRD)
        one[1][1].clear()
        one.pop()
        self.assertEqual((book.chords, other), (chords(), chords()))
        one, other = book.changes, book.changes
        one.clear()
        self.assertEqual((book.changes, other), (changes(), changes()))
        one, other = book["g"], book["g"]
        one.clear()
        self.assertEqual((book["g"], other), ([ONE, THIRD, FIFTH], [ONE, THIRD, FIFTH]))
        self.assertEqual(book.chords, chords())

    def test_books_that_books_tell_are_kept_apart(self):
        book = Book(chords(), changes())
        for other in [book.without("wide"), book.backward()]:
            other.chords[0][1].append(THIRD)
            other["c"].append(THIRD)
            other.changes.clear()
            self.assertEqual(other.chords, chords())
        self.assertEqual((book.chords, book.changes), (chords(), changes()))

    def test_properties_are_not_assigned(self):
        book = Book(chords(), changes())
        with self.assertRaises(AttributeError):
            book.chords = []
        with self.assertRaises(AttributeError):
            book.changes = []
        self.assertEqual((book.chords, book.changes), (chords(), changes()))


class ChordErrorsTest(ErrorCase):
    def test_invalid_name(self):
        for name in NO_NAMES:
            self.check_error(InvalidName, name, Book, [("c", []), (name, [])], [])
            self.check_error(InvalidName, name, Book, chords=[(name, [])], changes=[])

    def test_double_name(self):
        self.check_error(DoubleName, "c", Book, [("c", []), ("g", []), ("c", [ONE])], [])
        self.check_error(DoubleName, "g", Book, [("c", []), ("g", []), ("g", []), ("c", [])], [])

    def test_double_tone(self):
        tones = [ONE, FIFTH, THIRD, FIFTH, ONE]
        self.check_error(DoubleTone, ("g", 3), Book, [("c", [ONE]), ("g", tones)], [])
        self.check_error(DoubleTone, ("g", 1), Book, [("g", [ONE, (0, 0, 0), ONE])], [])

    def test_name_then_double_name_then_tone(self):
        twice = [ONE, ONE]
        self.check_error(InvalidName, "C", Book, [("C", twice)], [])
        self.check_error(InvalidName, "C", Book, [("c", []), ("C", twice), ("C", twice)], [])
        self.check_error(DoubleName, "c", Book, [("c", []), ("c", twice)], [])

    def test_chord_by_chord(self):
        twice = [ONE, ONE]
        self.check_error(DoubleTone, ("c", 1), Book, [("c", twice), ("c", []), ("C", [])], [])
        self.check_error(DoubleName, "c", Book, [("c", []), ("c", []), ("C", [])], [])
        self.check_error(InvalidName, "C", Book, [("C", []), ("c", twice), ("c", [])], [])
        self.check_error(DoubleTone, ("c", 1), Book, [("c", twice), ("g", twice)], [])

    def test_chords_before_changes(self):
        bad = [("UP", "x", 9, "y", 9)]
        self.check_error(InvalidName, "C", Book, [("C", [])], bad)
        self.check_error(DoubleName, "c", Book, [("c", []), ("c", [])], bad)
        self.check_error(DoubleTone, ("c", 1), Book, [("c", [ONE, ONE])], bad)


class ChangeErrorsTest(ErrorCase):
    def check_changes(self, error, value, *ways):
        told = chords()
        self.check_error(error, value, Book, told, list(ways))
        self.assertEqual(told, chords())

    def test_invalid_name(self):
        for name in NO_NAMES:
            self.check_changes(InvalidName, name, ("up", "c", 0, "g", 0), (name, "c", 0, "c", 0))

    def test_double_name(self):
        self.check_changes(DoubleName, "up", ("up", "c", 0, "g", 0), ("stay", "c", 0, "c", 0),
                           ("up", "g", 0, "c", 0))

    def test_a_change_may_have_the_name_of_a_chord(self):
        self.assertEqual(len(Book(chords(), [("c", "c", 0, "c", 0), ("g", "c", 0, "g", 0)])), 2)

    def test_unknown_chord(self):
        self.check_changes(UnknownChord, "d", ("up", "d", 0, "c", 0))
        self.check_changes(UnknownChord, "d", ("up", "c", 0, "d", 0))
        self.check_changes(UnknownChord, "d", ("up", "d", 0, "e", 0))
        self.check_changes(UnknownChord, "up", ("up", "up", 0, "up", 0))
        for name in NO_NAMES:
            self.check_changes(UnknownChord, name, ("up", "c", 0, name, 0))
            self.check_changes(UnknownChord, name, ("up", name, 0, "c", 0))

    def test_invalid_tone(self):
        for index in (-1, -2, -3, 2, 3, 100, -100):
            self.check_changes(InvalidTone, ("c", index), ("up", "c", index, "g", 0))
            self.check_changes(InvalidTone, ("c", index), ("up", "g", 0, "c", index))
        self.check_changes(InvalidTone, ("g", 3), ("up", "c", 1, "g", 3))
        self.check_changes(InvalidTone, ("rest", 0), ("up", "c", 1, "rest", 0))
        self.check_changes(InvalidTone, ("rest", 0), ("up", "rest", 0, "c", 1))
        self.check_changes(InvalidTone, ("rest", -1), ("up", "rest", -1, "rest", 0))

    def test_the_first_of_both(self):
        self.check_changes(InvalidTone, ("c", 2), ("up", "c", 2, "g", 3))
        self.check_changes(InvalidTone, ("g", 3), ("up", "g", 3, "c", 2))
        self.check_changes(InvalidTone, ("c", 5), ("up", "c", 5, "c", -1))

    def test_the_order_within_a_change(self):
        ahead = ("up", "c", 0, "c", 0)
        self.check_changes(InvalidName, "UP", ahead, ("UP", "d", 0, "c", 9))
        self.check_changes(DoubleName, "up", ahead, ("up", "d", 0, "c", 9))
        self.check_changes(UnknownChord, "d", ahead, ("new", "c", 9, "d", 0))
        self.check_changes(UnknownChord, "d", ahead, ("new", "d", 0, "c", 9))
        self.check_changes(InvalidTone, ("c", 9), ahead, ("new", "c", 9, "g", 0))

    def test_change_by_change(self):
        self.check_changes(InvalidTone, ("c", 9), ("up", "c", 9, "g", 0), ("UP", "c", 0, "c", 0))
        self.check_changes(UnknownChord, "d", ("up", "c", 0, "d", 0), ("up", "c", 9, "c", 0))
        self.check_changes(DoubleName, "up", ("up", "c", 0, "c", 0), ("up", "c", 0, "c", 0),
                           ("UP", "c", 0, "c", 0))
        self.check_changes(InvalidName, "UP", ("UP", "c", 0, "c", 0), ("up", "d", 0, "c", 0))


class MethodsTest(ErrorCase):
    def setUp(self):
        self.book = Book(chords(), changes())

    def tearDown(self):
        # Neither answers nor errors change a book.
        self.assertEqual((self.book.chords, self.book.changes), (chords(), changes()))

    def test_shift(self):
        self.assertEqual(self.book.shift("up"), FIFTH)
        self.assertEqual(self.book.shift("down"), (1, -1, 0))
        self.assertEqual(self.book.shift("stay"), ONE)
        self.assertEqual(self.book.shift("wide"), (1, 1, -1))
        self.assertEqual(self.book.shift(name="up"), FIFTH)

    def test_shift_at_the_bounds(self):
        book = Book([("a", [(99, -99, 99)]), ("b", [(-99, 99, -99)])],
                    [("ab", "a", 0, "b", 0), ("ba", "b", 0, "a", 0)])
        self.assertEqual(book.shift("ab"), (198, -198, 198))
        self.assertEqual(book.shift("ba"), (-198, 198, -198))

    def test_shift_of_an_unknown_change(self):
        for name in ["c", "nope"] + NO_NAMES:
            self.check_error(UnknownChange, name, self.book.shift, name)
        self.check_error(UnknownChange, "c", self.book.shift, name="c")

    def test_tones(self):
        self.assertEqual(self.book["c"], [ONE, FIFTH])
        self.assertEqual(self.book["g"], [ONE, THIRD, FIFTH])
        self.assertEqual(self.book["rest"], [])

    def test_tones_of_an_unknown_chord(self):
        for name in ["up", "nope"] + NO_NAMES:
            self.check_error(UnknownChord, name, lambda at: self.book[at], name)

    def test_without(self):
        for index, change in enumerate(changes()):
            other = self.book.without(change[0])
            self.assertIsInstance(other, Book)
            self.assertEqual(other.chords, chords())
            self.assertEqual(other.changes, changes()[:index] + changes()[index + 1:])
            self.assertEqual(len(other), 3)
        self.assertEqual(len(self.book.without(name="up").without(name="down")), 2)

    def test_without_an_unknown_change(self):
        for name in ["c", "nope"] + NO_NAMES:
            self.check_error(UnknownChange, name, self.book.without, name)
        self.check_error(UnknownChange, "c", self.book.without, name="c")
        self.check_error(UnknownChange, "up", self.book.without("up").without, "up")

    def test_backward(self):
        other = self.book.backward()
        self.assertIsInstance(other, Book)
        self.assertEqual(other.chords, chords())
        self.assertEqual(other.changes, [
            ("up", "g", 0, "c", 1), ("down", "c", 1, "g", 0), ("stay", "c", 0, "c", 0),
            ("wide", "g", 1, "g", 2),
        ])
        self.assertEqual(other.shift("up"), (1, -1, 0))
        self.assertEqual(other.backward(), self.book)
        self.assertEqual(Book([], []).backward(), Book([], []))


class EqualityTest(ErrorCase):
    def check_equal(self, one, other, equal):
        self.assertIs(one == other, equal)
        self.assertIs(other == one, equal)
        self.assertIs(one != other, not equal)

    def test_equal(self):
        book = Book(chords(), changes())
        self.check_equal(book, book, True)
        self.check_equal(book, Book(chords(), changes()), True)
        self.check_equal(Book([], []), Book([], []), True)

    def test_unlike_chords_or_changes(self):
        book = Book(chords(), changes())
        self.check_equal(book, Book(chords(), changes()[:3]), False)
        self.check_equal(book, Book(chords() + [("d", [])], changes()), False)
        self.check_equal(book, Book(chords()[:2] + [("rest", [ONE])], changes()), False)
        self.check_equal(book, Book(chords()[:2] + [("pause", [])], changes()), False)
        renamed = [("upward",) + changes()[0][1:]] + changes()[1:]
        self.check_equal(book, Book(chords(), renamed), False)
        moved = [("up", "c", 0, "g", 0)] + changes()[1:]
        self.check_equal(book, Book(chords(), moved), False)

    def test_the_order_counts(self):
        book = Book(chords(), changes())
        self.check_equal(book, Book(chords()[::-1], changes()), False)
        self.check_equal(book, Book(chords(), changes()[::-1]), False)
        tones = [("c", [ONE, FIFTH])]
        self.check_equal(Book(tones, []), Book([("c", [FIFTH, ONE])], []), False)

    def test_equal_shifts_are_not_enough(self):
        told = [("a", [ONE, FIFTH]), ("b", [ONE, FIFTH])]
        self.check_equal(Book(told, [("x", "a", 0, "b", 0)]), Book(told, [("x", "a", 1, "b", 1)]),
                         False)

    def test_a_book_is_not_equal_to_anything_else(self):
        for other in [None, 0, "", (), [], {}, (chords(), changes()), chords(), object(), Book]:
            self.check_equal(Book([], []), other, False)
            self.check_equal(Book(chords(), changes()), other, False)
        # Not even to what says that it is equal to everything.
        self.assertIs(Book([], []) == mock.ANY, False)


if __name__ == "__main__":
    unittest.main()
