"""Pitches [3], [5] to [8]: pitches, keeps and drifting."""

import random
import unittest

from heldtones.books import Book, follow
from heldtones.pitches import drifting, keeps, pitches
from tests.cases import ErrorCase
from tests.drawn import UNISON, changes_in, draw, draw_even, part_of, plus, songs

FIFTH, THIRD = (-1, 1, 0), (-2, 0, 1)
MAJOR = [UNISON, THIRD, FIFTH]
MINOR = [UNISON, (1, 1, -1), FIFTH]
ONE = [UNISON, FIFTH, THIRD]


def comma():
    """A round of four chords that comes back a comma lower than it began."""
    chords = [("c", MAJOR), ("a", MINOR), ("d", MINOR), ("g", MAJOR)]
    return Book(chords, [("ca", "c", 0, "a", 1), ("ad", "a", 0, "d", 2),
                         ("dg", "d", 0, "g", 2), ("gc", "g", 0, "c", 2)])


def steady():
    return Book([("c", ONE), ("g", ONE), ("rest", [])],
                [("up", "c", 1, "g", 0), ("down", "g", 0, "c", 1), ("stay", "c", 2, "c", 2)])


def kept(book, told):
    """Whether all changes of parts lead from the told pitch to the told pitch."""
    table = dict(told)
    return all(plus(table[change[1]], book.shift(change[0])) == table[change[3]]
               for change in book.changes if change[0] in changes_in(book, change[1]))


def first_drift(book):
    """The first song that comes back and drifts, among all songs up to so many changes."""
    places = {change[0]: k for k, change in enumerate(book.changes)}
    found = [(len(song), [places[name] for name in song], chord, song)
             for chord, _ in book.chords
             for song, end, shift in songs(book, chord, len(book.chords))
             if end == chord and shift != UNISON]
    return min(found)[2:] if found else None


class PitchesTest(ErrorCase):
    def test_no_chords(self):
        self.assertEqual(pitches(Book([], [])), [])

    def test_chords_without_tones_and_without_changes(self):
        self.assertEqual(pitches(Book([("b", []), ("a", []), ("c", ONE)], [])),
                         [("b", UNISON), ("a", UNISON), ("c", UNISON)])

    def test_first_chord_of_each_part_has_1(self):
        chords = [("g", ONE), ("x", ONE), ("c", ONE), ("y", ONE)]
        changes = [("up", "c", 1, "g", 0), ("yx", "y", 0, "x", 2), ("down", "g", 0, "c", 1),
                   ("xy", "x", 2, "y", 0)]
        self.assertEqual(pitches(Book(chords, changes)),
                         [("g", UNISON), ("x", UNISON), ("c", (1, -1, 0)), ("y", THIRD)])

    def test_changes_in_no_part_do_not_count(self):
        changes = [("up", "c", 1, "g", 0), ("too", "c", 2, "g", 1), ("on", "c", 1, "d", 0)]
        told = [("c", UNISON), ("g", UNISON), ("d", UNISON)]
        book = Book([("c", ONE), ("g", ONE), ("d", ONE)], changes)
        self.assertEqual(pitches(book), told)
        self.assertIsNone(drifting(book))

    def test_several_changes_between_the_same_chords(self):
        changes = [("up", "c", 1, "g", 0), ("down", "g", 0, "c", 1), ("again", "c", 1, "g", 0)]
        book = Book([("c", ONE), ("g", ONE)], changes)
        self.assertEqual(pitches(book), [("c", UNISON), ("g", FIFTH)])
        wide = Book(book.chords, changes + [("other", "c", 1, "g", 1)])
        self.assertIsNone(pitches(wide))
        self.assertEqual(drifting(wide), ("g", ["down", "other"]))

    def test_one_chord(self):
        still, wide = ("stay", "c", 1, "c", 1), ("up", "c", 1, "c", 0)
        self.assertEqual(pitches(Book([("c", ONE)], [still])), [("c", UNISON)])
        self.assertIsNone(pitches(Book([("c", ONE)], [wide])))
        self.assertIsNone(pitches(Book([("c", ONE)], [still, wide])))

    def test_a_long_way(self):
        tones = [(4, -4, 4), (-4, 4, -4)]
        names = "abcde"
        changes = [(one + other, one, 0, other, 1) for one, other in zip(names, names[1:])]
        back = [(other + one, other, 1, one, 0) for one, other in zip(names, names[1:])]
        book = Book([(name, tones) for name in names], changes[::-1] + back)
        self.assertEqual(pitches(book), [(name, (8 * k, -8 * k, 8 * k))
                                         for k, name in enumerate(names)])

    def test_none_where_one_part_drifts(self):
        book = comma()
        self.assertIsNone(pitches(book))
        self.assertEqual(pitches(book.without("gc")), [(name, UNISON) for name in "cadg"])
        both = Book(steady().chords + book.chords[1:2], steady().changes + [("x", "a", 0, "a", 1)])
        self.assertIsNone(pitches(both))

    def test_by_name_and_again(self):
        book = steady()
        told = pitches(book=book)
        self.assertEqual(told, [("c", UNISON), ("g", FIFTH), ("rest", UNISON)])
        self.assertEqual([type(told), type(told[0]), type(told[0][1])], [list, tuple, tuple])
        told.clear()
        self.assertEqual(len(pitches(book)), 3)
        self.assertEqual(book, steady())


class DriftingTest(ErrorCase):
    def test_none(self):
        for book in [Book([], []), Book([("a", [])], []), steady(), comma().without("ad")]:
            self.assertIsNone(drifting(book))

    def test_a_round(self):
        # Of the four chords it may be from, the one with the first change.
        self.assertEqual(drifting(comma()), ("c", ["ca", "ad", "dg", "gc"]))
        turned = Book(comma().chords, comma().changes[2:] + comma().changes[:2])
        self.assertEqual(drifting(turned), ("d", ["dg", "gc", "ca", "ad"]))

    def test_shorter_ones_first(self):
        book = comma()
        told = Book(book.chords, book.changes + [("cc", "c", 0, "c", 1)])
        self.assertEqual(drifting(told), ("c", ["cc"]))
        told = Book(book.chords, book.changes + [("ac", "a", 0, "c", 0)])
        self.assertEqual(drifting(told), ("c", ["ca", "ac"]))

    def test_then_by_indexes(self):
        chords = [("c", ONE), ("g", ONE)]
        changes = [("still", "c", 0, "c", 0), ("gg", "g", 1, "g", 0), ("cc", "c", 1, "c", 0)]
        self.assertEqual(drifting(Book(chords, changes)), ("g", ["gg"]))
        # The first change alone does not settle it.
        changes = [("up", "c", 1, "g", 0), ("down", "g", 0, "c", 1), ("x", "g", 1, "c", 0),
                   ("y", "g", 2, "c", 0)]
        self.assertEqual(drifting(Book(chords, changes)), ("c", ["up", "x"]))
        self.assertEqual(drifting(Book(chords, changes[:2] + [changes[3], changes[2]])),
                         ("c", ["up", "y"]))
        self.assertEqual(drifting(Book(chords, changes[1:] + changes[:1])), ("g", ["x", "up"]))

    def test_names_and_chords_do_not_settle_the_order(self):
        chords = [("a", ONE), ("b", ONE)]
        changes = [("z", "b", 1, "b", 0), ("y", "a", 1, "a", 0)]
        self.assertEqual(drifting(Book(chords, changes)), ("b", ["z"]))

    def test_by_name_and_again(self):
        book = comma()
        told = drifting(book=book)
        self.assertEqual([type(told), type(told[1])], [tuple, list])
        told[1].clear()
        self.assertEqual(drifting(book), ("c", ["ca", "ad", "dg", "gc"]))
        self.assertEqual(book, comma())


class KeepsTest(ErrorCase):
    def test_ordinary(self):
        told = [("rest", (7, 7, 7)), ("g", plus(FIFTH, THIRD)), ("c", THIRD)]
        self.assertIs(keeps(steady(), told), True)
        self.assertIs(keeps(steady(), told[::-1]), True)
        self.assertIs(keeps(steady(), pitches(steady())), True)
        self.assertIs(keeps(told=told, book=steady()), True)
        self.assertEqual(told, [("rest", (7, 7, 7)), ("g", (-3, 1, 1)), ("c", THIRD)])

    def test_a_wrong_pitch(self):
        for place in range(3):
            for by in (-1, 1):
                ratio = list(FIFTH)
                ratio[place] += by
                told = [("c", UNISON), ("g", tuple(ratio)), ("rest", UNISON)]
                self.assertIs(keeps(steady(), told), False)

    def test_each_chord_once_and_nothing_else(self):
        told = [("c", UNISON), ("g", FIFTH), ("rest", UNISON)]
        for wrong in [[], told[:2], told[1:], told + [("c", UNISON)], told + [("d", UNISON)],
                      told[:2] + [("g", FIFTH)], told[:2] + [("no chord!", UNISON)],
                      told[:2] + [("", UNISON)], told + told]:
            self.assertIs(keeps(steady(), wrong), False)

    def test_no_chords(self):
        self.assertIs(keeps(Book([], []), []), True)
        self.assertIs(keeps(Book([], []), [("c", UNISON)]), False)

    def test_where_there_are_none(self):
        wide = Book([("c", ONE)], [("up", "c", 1, "c", 0)])
        self.assertIs(keeps(wide, [("c", UNISON)]), False)
        self.assertIs(keeps(wide.without("up"), [("c", THIRD)]), True)

    def test_changes_in_no_part_do_not_count(self):
        book = Book([("c", ONE), ("g", ONE)], [("up", "c", 1, "g", 0)])
        self.assertIs(keeps(book, [("c", (5, 0, 0)), ("g", (0, 0, -200))]), True)

    def test_large_ratios(self):
        told = [("c", (200, -200, 199)), ("g", plus((200, -200, 199), FIFTH)), ("rest", UNISON)]
        self.assertIs(keeps(steady(), told), True)


class DrawnPitchesTest(ErrorCase):
    def test_either_pitches_or_a_song_that_drifts(self):
        source = random.Random(11)
        seen = [0, 0]
        for turn in range(240):
            book = draw(source, chords=4, changes=5) if turn % 2 else draw_even(source, 1 + turn % 4)
            told, drift = pitches(book), drifting(book)
            self.assertEqual(drift, first_drift(book))
            self.assertNotEqual(told is None, drift is None)
            seen[told is None] += 1
            if drift is None:
                self.assertEqual([name for name, _ in told], [name for name, _ in book.chords])
                self.assertTrue(kept(book, told) and keeps(book, told))
                firsts = {name for name, _ in book.chords if part_of(book, name)[0] == name}
                self.assertEqual({dict(told)[name] for name in firsts}, {UNISON})
            else:
                end, shift = follow(book, *drift)
                self.assertEqual(end, drift[0])
                self.assertNotEqual(shift, UNISON)
        self.assertGreater(min(seen), 40)

    def test_keeps_beside_each_change(self):
        source = random.Random(12)
        for _ in range(150):
            book = draw(source, chords=3)
            told = [(name, tuple(source.randint(-1, 1) for _ in range(3))) for name, _ in book.chords]
            source.shuffle(told)
            self.assertIs(keeps(book, told), kept(book, told))


if __name__ == "__main__":
    unittest.main()
