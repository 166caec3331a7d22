"""Songs and parts [5], [6]: follow, parts and changes_of."""

import random
import unittest

from heldtones.books import Book, changes_of, follow, parts
from heldtones.errors import UnknownChange, UnknownChord, WrongSong
from heldtones.ratios import times
from tests.cases import ErrorCase

ONE, FIFTH, THIRD = (0, 0, 0), (-1, 1, 0), (-2, 0, 1)
NO_NAMES = ["", "abcdefghi", "C", "c1", "c d", "~", "x" * 3000]


def graph(chords, steps):
    """A book with chords of two tones and changes from chord to chord, named by both."""
    return Book([(name, [ONE, FIFTH]) for name in chords],
                [(step, step[0], 1, step[1], 0) for step in steps])


class FollowTest(ErrorCase):
    def setUp(self):
        self.chords = [("c", [ONE, FIFTH]), ("g", [ONE, THIRD, FIFTH]), ("rest", [])]
        self.changes = [("up", "c", 1, "g", 0), ("down", "g", 0, "c", 1), ("stay", "c", 0, "c", 0),
                        ("wide", "g", 2, "g", 1), ("two", "c", 1, "g", 1)]
        self.book = Book(self.chords, self.changes)

    def tearDown(self):
        self.assertEqual((self.book.chords, self.book.changes), (self.chords, self.changes))

    def test_empty_song(self):
        for name in ["c", "g", "rest"]:
            self.assertEqual(follow(self.book, name, []), (name, ONE))

    def test_songs(self):
        for chord, song, told in [
            ("c", ["up"], ("g", FIFTH)),
            ("g", ["down"], ("c", (1, -1, 0))),
            ("c", ["stay"], ("c", ONE)),
            ("c", ["stay", "stay", "up"], ("g", FIFTH)),
            ("c", ["up", "down"], ("c", ONE)),
            ("c", ["two", "down"], ("c", (2, 0, -1))),
            ("c", ["up", "wide", "wide", "down", "two"], ("g", (3, 3, -3))),
            ("g", ["wide"] * 60, ("g", (60, 60, -60))),
        ]:
            answer = follow(self.book, chord, song)
            self.assertEqual(answer, told)
            self.assertEqual((type(answer), type(answer[0]), type(answer[1])), (tuple, str, tuple))

    def test_by_name(self):
        self.assertEqual(follow(song=["up"], chord="c", book=self.book), ("g", FIFTH))

    def test_a_long_song_at_the_bounds(self):
        book = Book([("a", [(99, -99, 0), (-99, 99, 5)])], [("x", "a", 0, "a", 1)])
        self.assertEqual(follow(book, "a", ["x"] * 60), ("a", (11880, -11880, -300)))

    def test_the_song_stays_as_it_is(self):
        song = ["up", "down"]
        follow(self.book, "c", song)
        self.assertEqual(song, ["up", "down"])
        with self.assertRaises(WrongSong):
            follow(self.book, "g", song)
        self.assertEqual(song, ["up", "down"])

    def test_unknown_chord(self):
        for name in ["d", "up"] + NO_NAMES:
            self.check_error(UnknownChord, name, follow, self.book, name, [])
            self.check_error(UnknownChord, name, follow, song=["nope"], chord=name, book=self.book)

    def test_unknown_change(self):
        for name in ["d", "c"] + NO_NAMES:
            self.check_error(UnknownChange, name, follow, self.book, "c", [name])
            self.check_error(UnknownChange, name, follow, self.book, "c", ["up", "down", name, "no"])

    def test_wrong_song(self):
        for chord, song, index in [
            ("c", ["down"], 0), ("g", ["up"], 0), ("rest", ["stay"], 0), ("g", ["stay", "up"], 0),
            ("c", ["up", "up"], 1), ("c", ["up", "stay", "up"], 1), ("c", ["stay", "down", "down"], 1),
            ("c", ["up", "down"] * 29 + ["up", "two"], 59),
        ]:
            self.check_error(WrongSong, index, follow, self.book, chord, song)

    def test_the_order_of_errors(self):
        self.check_error(UnknownChord, "d", follow, self.book, "d", ["nope", "down"])
        self.check_error(UnknownChord, "d", follow, self.book, "d", ["down"])
        # A name that is none comes first, even behind a change that does not fit.
        self.check_error(UnknownChange, "nope", follow, self.book, "c", ["down", "up", "nope"])
        self.check_error(UnknownChange, "no", follow, self.book, "c", ["down", "no", "nope"])


class PartsTest(ErrorCase):
    def test_nothing_at_all(self):
        self.assertEqual(parts(Book([], [])), [])

    def test_each_chord_alone(self):
        self.assertEqual(parts(Book([("a", []), ("b", [])], [])), [["a"], ["b"]])
        self.assertEqual(parts(graph("abc", ["ab", "bc", "ac"])), [["a"], ["b"], ["c"]])

    def test_a_change_from_a_chord_to_itself(self):
        book = graph("ab", ["bb", "ab"])
        self.assertEqual(parts(book), [["a"], ["b"]])
        self.assertEqual((changes_of(book, "a"), changes_of(book, "b")), ([], ["bb"]))

    def test_two_changes_between_the_same_chords(self):
        told = [("x", "a", 0, "b", 0), ("y", "a", 0, "b", 0)]
        book = Book([("a", [ONE]), ("b", [ONE])], told)
        self.assertEqual((parts(book), changes_of(book, "a")), ([["a"], ["b"]], []))
        book = Book(book.chords, told + [("z", "b", 0, "a", 0)])
        self.assertEqual((parts(book), changes_of(book, "b")), ([["a", "b"]], ["x", "y", "z"]))

    def test_a_ring(self):
        ring = ["ab", "bc", "cd", "de", "ef", "fa"]
        book = graph("abcdef", ring)
        self.assertEqual(parts(book), [list("abcdef")])
        self.assertEqual(changes_of(book, "d"), ring)
        self.assertEqual(parts(book.without("de")), [[name] for name in "abcdef"])
        for name in "abcdef":
            self.assertEqual(changes_of(book.without("de"), name), [])

    def test_the_largest_ring(self):
        names = "lkjihgfedcba"
        book = graph(names, [a + b for a, b in zip(names, names[1:] + names[0])])
        self.assertEqual(parts(book), [list(names)])
        self.assertEqual(parts(book.backward()), [list(names)])

    def test_parts_in_the_order_of_their_first_chords(self):
        book = graph("daebc", ["ab", "ba", "cd", "dc", "de", "bc"])
        self.assertEqual(parts(book), [["d", "c"], ["a", "b"], ["e"]])
        self.assertEqual(changes_of(book, "a"), ["ab", "ba"])
        self.assertEqual(changes_of(book, "b"), ["ab", "ba"])
        self.assertEqual(changes_of(book, "c"), ["cd", "dc"])
        self.assertEqual(changes_of(book, "e"), [])

    def test_changes_in_their_order(self):
        book = graph("ab", ["ba", "bb", "ab", "aa"])
        self.assertEqual(changes_of(book, "a"), ["ba", "bb", "ab", "aa"])

    def test_one_way_is_not_enough(self):
        book = graph("abcd", ["ab", "ba", "bc", "cd", "dc"])
        self.assertEqual(parts(book), [["a", "b"], ["c", "d"]])
        self.assertEqual(changes_of(book, "c"), ["cd", "dc"])

    def test_shifts_do_not_count(self):
        # A round that drifts hangs together all the same.
        book = Book([("a", [ONE, THIRD])], [("x", "a", 0, "a", 1)])
        self.assertEqual((parts(book), changes_of(book, "a")), ([["a"]], ["x"]))

    def test_by_name(self):
        book = graph("ab", ["ab", "ba"])
        self.assertEqual(parts(book=book), [["a", "b"]])
        self.assertEqual(changes_of(chord="b", book=book), ["ab", "ba"])

    def test_unknown_chord(self):
        for book in [Book([], []), graph("ab", ["ab", "ba"])]:
            for name in ["c", "ab"] + NO_NAMES:
                self.check_error(UnknownChord, name, changes_of, book, name)
        self.check_error(UnknownChord, "ab", changes_of, chord="ab", book=book)

    def test_told_lists_are_new(self):
        book = graph("abc", ["ab", "ba", "cc"])
        kept = (book.chords, book.changes)
        one, other = parts(book), parts(book)
        self.assertEqual(len({id(part) for part in one + other}), 4)
        one[0].append("x")
        one[1].clear()
        one.pop()
        self.assertEqual((parts(book), other), ([["a", "b"], ["c"]], [["a", "b"], ["c"]]))
        one, other = changes_of(book, "a"), changes_of(book, "b")
        one.append("x")
        self.assertEqual((changes_of(book, "a"), other), (["ab", "ba"], ["ab", "ba"]))
        self.assertEqual((book.chords, book.changes), kept)


class DrawnBooksTest(ErrorCase):
    """Answers beside those of songs that are tried out one after the other."""

    def ends_of_songs(self, book, chord):
        """The chords to which songs of fewer changes than there are chords lead."""
        ends = {chord}
        for _ in book.chords:
            ends |= {change[3] for change in book.changes if change[1] in ends}
        return ends

    def draw(self, source):
        names = source.sample("abcdefghijkl", source.randint(1, 12))
        chords = [(name, [ONE, FIFTH, THIRD][:source.randint(1, 3)]) for name in names]
        sizes = {name: len(tones) for name, tones in chords}
        changes = []
        for sign in "abcdefghijklmnopqrst"[:source.randint(0, 20)]:
            one, other = source.choice(names), source.choice(names)
            changes.append((sign, one, source.randrange(sizes[one]), other,
                            source.randrange(sizes[other])))
        return Book(chords, changes)

    def test_parts(self):
        source = random.Random(4)
        for _ in range(150):
            book = self.draw(source)
            names = [name for name, _ in book.chords]
            ends = {name: self.ends_of_songs(book, name) for name in names}
            told = parts(book)
            self.assertEqual(sorted(sum(told, [])), sorted(names))
            self.assertEqual([names.index(part[0]) for part in told],
                             sorted(names.index(part[0]) for part in told))
            for part in told:
                self.assertEqual(part, [name for name in names
                                        if name in ends[part[0]] and part[0] in ends[name]])
                for chord in part:
                    self.assertEqual(changes_of(book, chord), [
                        change[0] for change in book.changes
                        if change[1] in part and change[3] in part])

    def test_follow(self):
        source = random.Random(5)
        for _ in range(150):
            book = self.draw(source)
            start = now = source.choice(book.chords)[0]
            song, shift = [], ONE
            while len(song) < 60:
                able = [change for change in book.changes if change[1] == now]
                if not able:
                    break
                change = source.choice(able)
                song.append(change[0])
                shift = times(shift, book.shift(change[0]))
                now = change[3]
            self.assertEqual(follow(book, start, song), (now, shift))
            bad = [change[0] for change in book.changes if change[1] != now]
            if bad:
                self.check_error(WrongSong, len(song), follow, book, start, song + bad)


if __name__ == "__main__":
    unittest.main()
