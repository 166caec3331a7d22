"""How high and how low songs go [3], [5], [8]: highest, lowest, their songs, rising and sinking."""

import random
import unittest
from fractions import Fraction

from heldtones.books import Book, follow
from heldtones.errors import UnknownChord
from heldtones.heights import highest, highest_song, lowest, lowest_song, rising, sinking
from heldtones.ratios import is_greater
from tests.cases import ErrorCase
from tests.drawn import UNISON, draw, draw_even, songs

ONE = [UNISON, (-1, 1, 0), (-2, 0, 1)]
FIFTH = (-1, 1, 0)
NO_NAMES = ["", "C", "nochordis", "~", "no such", "up"]
ALL = [highest, lowest, highest_song, lowest_song, rising, sinking]


def number(ratio):
    return Fraction(2) ** ratio[0] * Fraction(3) ** ratio[1] * Fraction(5) ** ratio[2]


def path():
    """Up by a fifth, or by a third, and on by a fifth; there is no way back."""
    return Book([("c", ONE), ("g", ONE), ("d", ONE), ("rest", [])],
                [("third", "c", 2, "g", 0), ("up", "c", 1, "g", 0), ("more", "g", 1, "d", 0)])


def home():
    return Book(path().chords, path().changes + [("home", "d", 0, "c", 1)])


class HeightsTest(ErrorCase):
    def check_round(self, book, chord, told, upward):
        self.assertEqual([type(told), type(told[0]), type(told[1])], [tuple, list, list])
        lead, turn = told
        now, _ = follow(book, chord, lead)
        end, drift = follow(book, now, turn)
        self.assertEqual(end, now)
        self.assertTrue(number(drift) > 1 if upward else number(drift) < 1)

    def check_bounded(self, book, chord, high, low):
        self.assertEqual([highest(book, chord), lowest(book, chord)], [high, low])
        for song, told in [(highest_song(book, chord), high), (lowest_song(book, chord), low)]:
            self.assertIs(type(song), list)
            self.assertEqual(follow(book, chord, song)[1], told)
        self.assertEqual([rising(book, chord), sinking(book, chord)], [None, None])

    def test_no_changes(self):
        book = Book([("a", []), ("b", ONE)], [])
        for chord in "ab":
            self.check_bounded(book, chord, UNISON, UNISON)
            self.assertEqual([highest_song(book, chord), lowest_song(book, chord)], [[], []])

    def test_a_path(self):
        self.check_bounded(path(), "c", (-2, 2, 0), UNISON)
        self.assertEqual(highest_song(path(), "c"), ["up", "more"])
        self.check_bounded(path(), "g", FIFTH, UNISON)
        self.check_bounded(path(), "d", UNISON, UNISON)
        self.check_bounded(path(), "rest", UNISON, UNISON)

    def test_a_path_backward(self):
        self.check_bounded(path().backward(), "d", UNISON, (2, -2, 0))
        self.assertEqual(lowest_song(path().backward(), "d"), ["more", "up"])
        self.check_bounded(path().backward(), "c", UNISON, UNISON)

    def test_the_highest_may_be_in_between(self):
        book = Book([("a", ONE), ("b", ONE), ("c", ONE)],
                    [("up", "a", 1, "b", 0), ("down", "b", 0, "c", 2), ("low", "a", 0, "c", 1)])
        self.check_bounded(book, "a", FIFTH, (1, -1, 0))
        self.assertEqual([highest_song(book, "a"), lowest_song(book, "a")], [["up"], ["low"]])

    def test_a_longer_way_may_be_better(self):
        # Straight to d, a fifth up; round by b and c it is nearly three thirds.
        book = Book([(name, ONE) for name in "abcd"],
                    [("ad", "a", 1, "d", 0), ("ab", "a", 2, "b", 0), ("bc", "b", 2, "c", 0),
                     ("cd", "c", 2, "d", 0)])
        for turned in (book, Book(book.chords, book.changes[::-1])):
            self.check_bounded(turned, "a", (-6, 0, 3), UNISON)
            self.assertEqual(highest_song(turned, "a"), ["ab", "bc", "cd"])

    def test_a_round_that_does_not_drift(self):
        book = Book([("c", ONE), ("g", ONE)],
                    [("up", "c", 1, "g", 0), ("down", "g", 0, "c", 1), ("stay", "g", 2, "g", 2)])
        self.check_bounded(book, "c", FIFTH, UNISON)
        self.check_bounded(book, "g", UNISON, (1, -1, 0))

    def test_a_round_that_rises(self):
        book = home()
        for chord in "cgd":
            self.assertIsNone(highest(book, chord))
            self.assertIsNone(highest_song(book, chord))
            self.check_round(book, chord, rising(book, chord), True)
            self.assertIsNone(sinking(book, chord))
        self.assertEqual([lowest(book, name) for name in ["c", "g", "d", "rest"]],
                         [UNISON, UNISON, (1, -1, 0), UNISON])
        self.assertEqual([lowest_song(book, "d"), lowest_song(book, "c")], [["home"], []])
        self.assertEqual(highest(book, "rest"), UNISON)

    def test_a_round_that_sinks(self):
        book = home().backward()
        for chord in "cgd":
            self.assertIsNone(lowest(book, chord))
            self.assertIsNone(lowest_song(book, chord))
            self.check_round(book, chord, sinking(book, chord), False)
            self.assertIsNone(rising(book, chord))
        self.assertEqual(highest(book, "c"), FIFTH)

    def test_a_round_behind_a_lead(self):
        chords = [(name, ONE) for name in "abcd"]
        changes = [("ab", "a", 0, "b", 1), ("bc", "b", 0, "c", 1), ("cd", "c", 0, "d", 1),
                   ("dd", "d", 1, "d", 0)]
        book = Book(chords, changes)
        for chord in "abcd":
            self.check_round(book, chord, rising(book, chord), True)
            self.assertIsNone(highest(book, chord))
        self.assertEqual(rising(book, "a"), (["ab", "bc", "cd"], ["dd"]))
        self.assertEqual(rising(book, "d"), ([], ["dd"]))
        self.assertEqual(lowest(book, "a"), (3, -3, 0))
        # From where it cannot be come to, it does not count.
        back = Book(chords, [(name, two, same, one, held) for name, one, held, two, same in changes])
        self.assertEqual([highest(back, name) for name in "abc"], [UNISON, FIFTH, (-2, 2, 0)])
        self.check_round(back, "d", sinking(back, "d"), False)

    def test_one_chord_both_ways(self):
        book = Book([("c", ONE)], [("up", "c", 1, "c", 0), ("down", "c", 0, "c", 2)])
        self.check_round(book, "c", rising(book, "c"), True)
        self.check_round(book, "c", sinking(book, "c"), False)
        for asked in (highest, lowest, highest_song, lowest_song):
            self.assertIsNone(asked(book, "c"))
        self.check_bounded(Book([("c", ONE)], [("stay", "c", 1, "c", 1)]), "c", UNISON, UNISON)

    def test_the_least_rise(self):
        # A round of several changes that rises by very little is told from one that does not.
        tones = [UNISON, (-4, 4, -1), (4, -4, 1), (0, 4, -4), (3, 1, -1), (-4, 1, 1)]
        for tone in tones[1:]:
            book = Book([("c", tones)], [("x", "c", tones.index(tone), "c", 0)])
            up = number(tone) > 1
            self.assertEqual([highest(book, "c") is None, lowest(book, "c") is None], [up, not up])

    def test_by_name_and_again(self):
        for asked in ALL:
            for book in (home(), path(), home().backward()):
                told = asked(chord="c", book=book)
                same = asked(book, "c")
                self.assertEqual(told, same)
                for part in [told] if type(told) is list else told or []:
                    if type(part) is list:
                        part.append("x")
                self.assertEqual(asked(book, "c"), same)
                self.assertIn(book, [home(), path(), home().backward()])

    def test_unknown_chord(self):
        for asked in ALL:
            for name in NO_NAMES:
                self.check_error(UnknownChord, name, asked, home(), name)
                self.check_error(UnknownChord, name, asked, Book([], []), name)
                self.check_error(UnknownChord, name, asked, chord=name, book=path())

    def test_drawn_beside_all_songs(self):
        source = random.Random(41)
        seen = [0, 0, 0, 0]
        for turn in range(150):
            book = draw_even(source, 1 + turn % 4) if turn % 4 == 0 else draw(
                source, 1 + turn % 4, chords=4, changes=5)
            for chord, _ in book.chords:
                # Songs without a chord twice, but for those that come back at their end.
                every = [(song, end, number(shift))
                         for song, end, shift in songs(book, chord, len(book.chords))]
                for upward, asked in [(True, [highest, highest_song, rising]),
                                      (False, [lowest, lowest_song, sinking])]:
                    goes = any(self.is_round_that_goes(book, end, upward) for _, end, _ in every)
                    shift, song, told = [ask(book, chord) for ask in asked]
                    seen[2 * upward + goes] += 1
                    self.assertEqual([shift is None, song is None, told is None],
                                     [goes, goes, not goes])
                    if goes:
                        self.check_round(book, chord, told, upward)
                    else:
                        pick = max if upward else min
                        self.assertEqual(number(shift), pick(worth for _, _, worth in every))
                        self.assertEqual(follow(book, chord, song)[1], shift)
                        self.assertFalse(is_greater(UNISON, shift) if upward
                                         else is_greater(shift, UNISON))
        self.assertGreater(min(seen), 30)

    def is_round_that_goes(self, book, chord, upward):
        return any(end == chord and (number(shift) > 1 if upward else number(shift) < 1)
                   for _, end, shift in songs(book, chord, len(book.chords)))


if __name__ == "__main__":
    unittest.main()
