"""Songs of numbers of changes [5], [8]: song_of."""

import itertools
import random
import unittest

from heldtones.books import Book, follow
from heldtones.errors import UnknownChange, UnknownChord, WrongNumbers
from heldtones.pitches import song_of
from tests.cases import ErrorCase
from tests.drawn import UNISON, draw, hang_together, shift_of, songs, surpluses

ONE = [UNISON, (-1, 1, 0), (-2, 0, 1)]
NO_NAMES = ["", "C", "nochangeis", "~", "no such"]


def two_rounds():
    return Book([("c", ONE), ("g", ONE), ("rest", [])],
                [("up", "c", 1, "g", 0), ("down", "g", 0, "c", 1), ("high", "c", 2, "g", 0),
                 ("stay", "g", 1, "g", 1)])


def eight():
    """Three rounds that meet at one chord, and one apart."""
    names = "mabcd"
    ways = ["ma", "am", "mb", "bm", "mc", "cm", "dd"]
    return Book([(name, ONE) for name in names],
                [(way, way[0], 0, way[1], 1) for way in ways])


class SongOfTest(ErrorCase):
    def check(self, book, chord, numbers):
        song = song_of(book, chord, numbers)
        self.assertIs(type(song), list)
        self.assertEqual({name: song.count(name) for name in song},
                         {name: number for name, number in numbers if number})
        end, shift = follow(book, chord, song)
        self.assertEqual(shift, shift_of(book, numbers))
        return end

    def test_no_changes(self):
        for chord in ["c", "g", "rest"]:
            for numbers in [[], [("up", 0)], [("up", 0), ("stay", 0)]]:
                self.assertEqual(song_of(two_rounds(), chord, numbers), [])

    def test_there_is_just_one(self):
        book = two_rounds()
        self.assertEqual(song_of(book, "c", [("up", 1)]), ["up"])
        self.assertEqual(song_of(book, "g", [("down", 1), ("up", 0)]), ["down"])
        self.assertEqual(song_of(book, "g", [("up", 2), ("down", 2)]), ["down", "up"] * 2)
        self.assertEqual(song_of(book, "c", [("up", 2), ("down", 1)]), ["up", "down", "up"])
        self.assertEqual(song_of(numbers=[("stay", 3)], chord="g", book=book), ["stay"] * 3)

    def test_any_of_several(self):
        book = two_rounds()
        self.assertEqual(self.check(book, "c", [("up", 2), ("high", 1), ("down", 2)]), "g")
        self.assertEqual(self.check(book, "c", [("stay", 4), ("up", 1), ("high", 1), ("down", 2)]), "c")
        self.assertEqual(self.check(book, "g", [("stay", 1), ("down", 1)]), "c")
        self.assertEqual(self.check(book, "g", [("stay", 2), ("down", 3), ("high", 3)]), "g")

    def test_rounds_that_meet(self):
        book = eight()
        pairs = [("ma", "am"), ("mb", "bm"), ("mc", "cm")]
        for counts in itertools.product(range(3), repeat=3):
            numbers = [(name, count) for pair, count in zip(pairs, counts) for name in pair]
            self.assertEqual(self.check(book, "m", numbers), "m")
            if counts[1] > 0:
                self.assertEqual(self.check(book, "b", numbers[::-1]), "b")
            for k, (to, _) in enumerate(pairs):
                more = [(name, count + (name == to)) for name, count in numbers]
                self.assertEqual(self.check(book, "m", more), to[1])

    def test_in_no_part(self):
        book = Book([("a", ONE), ("b", ONE), ("c", ONE)],
                    [("ab", "a", 0, "b", 1), ("bb", "b", 0, "b", 1), ("bc", "b", 0, "c", 1)])
        self.assertEqual(song_of(book, "a", [("bc", 1), ("ab", 1)]), ["ab", "bc"])
        self.assertEqual(song_of(book, "a", [("bc", 1), ("bb", 2), ("ab", 1)]),
                         ["ab", "bb", "bb", "bc"])

    def test_many_times(self):
        book = two_rounds()
        self.assertEqual(self.check(book, "c", [("up", 100), ("down", 99), ("stay", 100)]), "g")
        self.assertEqual(self.check(book, "c", [("up", 50), ("high", 50), ("down", 100)]), "c")
        self.assertEqual(self.check(book, "g", [("stay", 2000)]), "g")

    def test_wrong_numbers(self):
        for chord, numbers in [
            ("g", [("up", 1)]), ("rest", [("up", 1)]), ("c", [("up", 2)]), ("c", [("stay", 1)]),
            ("c", [("up", 3), ("down", 1)]), ("c", [("down", 2), ("up", 1)]),
            ("g", [("up", 1), ("high", 1), ("down", 1)]), ("rest", [("stay", 1)]),
            ("rest", [("up", 1), ("down", 1)]), ("c", [("down", 1), ("stay", 1)]),
            ("c", [("up", 100), ("down", 1)]),
        ]:
            self.check_error(WrongNumbers, numbers, song_of, two_rounds(), chord, numbers)

    def test_they_hang_together_with_the_first_chord(self):
        book = eight()
        for chord, numbers in [
            ("m", [("dd", 1)]), ("m", [("ma", 1), ("am", 1), ("dd", 1)]), ("d", [("ma", 1), ("am", 1)]),
            ("a", [("mb", 2), ("bm", 2)]), ("d", [("dd", 1), ("mc", 1), ("cm", 1)]),
            ("a", [("am", 1), ("dd", 1)]),
        ]:
            self.check_error(WrongNumbers, numbers, song_of, book, chord, numbers)

    def test_twice_or_below_0(self):
        for numbers in [
            [("up", 1), ("up", 1)], [("up", 1), ("up", 0)], [("up", 0), ("up", 0)],
            [("up", 1), ("down", 1), ("up", 0)], [("up", -1)], [("up", 1), ("stay", -1)],
            [("up", -1), ("down", -1)], [("up", 1), ("high", -1)], [("stay", 1), ("down", -1)],
            [("up", -100), ("down", -100)],
        ]:
            self.check_error(WrongNumbers, numbers, song_of, two_rounds(), "c", numbers)

    def test_the_error_holds_a_copy(self):
        numbers = [("up", 2), ("up", -1)]
        with self.assertRaises(WrongNumbers) as caught:
            song_of(two_rounds(), "c", numbers)
        self.assertIsNot(caught.exception.value, numbers)
        caught.exception.value.clear()
        self.assertEqual(numbers, [("up", 2), ("up", -1)])
        with self.assertRaises(WrongNumbers) as caught:
            song_of(two_rounds(), "g", numbers[:1])
        self.assertEqual(caught.exception.value, [("up", 2)])

    def test_unknown_chord_and_change(self):
        for name in NO_NAMES + ["up"]:
            self.check_error(UnknownChord, name, song_of, two_rounds(), name, [])
            self.check_error(UnknownChord, name, song_of, Book([], []), name, [])
        for name in NO_NAMES + ["c"]:
            for numbers in [[(name, 1)], [(name, 0)], [("up", 1), (name, -1)]]:
                self.check_error(UnknownChange, name, song_of, two_rounds(), "c", numbers)

    def test_the_order_of_errors(self):
        wrong = [("up", -1), ("no", 1), ("nope", 1), ("up", 1)]
        self.check_error(UnknownChord, "x", song_of, two_rounds(), "x", wrong)
        self.check_error(UnknownChange, "no", song_of, two_rounds(), "c", wrong)
        self.check_error(WrongNumbers, [wrong[0], wrong[3]], song_of, two_rounds(), "c",
                         [wrong[0], wrong[3]])

    def test_what_is_handed_in_stays_and_what_is_told_is_new(self):
        book, numbers = two_rounds(), [("stay", 1), ("down", 1)]
        told = song_of(book, "g", numbers)
        told.clear()
        self.assertEqual(numbers, [("stay", 1), ("down", 1)])
        self.assertEqual(song_of(book, "g", numbers), ["stay", "down"])
        self.assertEqual(book, two_rounds())

    def test_drawn_beside_all_songs(self):
        source = random.Random(31)
        seen = [0, 0]
        for _ in range(120):
            book = draw(source, chords=3, changes=4)
            names = [change[0] for change in book.changes]
            for chord, _ in book.chords:
                able = {tuple(song.count(name) for name in names): end
                        for song, end, _ in songs(book, chord, 5)}
                for _ in range(8):
                    counts = [source.choice([0, 0, 1, 1, 2]) for _ in names]
                    if sum(counts) > 5:
                        continue
                    numbers = list(zip(names, counts))
                    source.shuffle(numbers)
                    seen[tuple(counts) in able] += 1
                    if tuple(counts) in able:
                        self.assertEqual(self.check(book, chord, numbers), able[tuple(counts)])
                    else:
                        self.check_error(WrongNumbers, numbers, song_of, book, chord, numbers)
        self.assertGreater(min(seen), 100)

    def test_drawn_long_songs(self):
        source = random.Random(32)
        for _ in range(150):
            book = draw(source)
            chord = now = source.choice(book.chords)[0]
            song = []
            for _ in range(source.randint(0, 200)):
                able = [change for change in book.changes if change[1] == now]
                if not able:
                    break
                change = source.choice(able)
                song.append(change[0])
                now = change[3]
            numbers = [(name, song.count(name)) for name in dict.fromkeys(song)]
            self.assertEqual(self.check(book, chord, numbers), now)
            self.assertTrue(hang_together(book, chord, numbers))
            # One more, and it is that of no song, or that of one to elsewhere.
            for name in [change[0] for change in book.changes]:
                more = [(other, number + (other == name)) for other, number in numbers]
                if name in dict(numbers) and sorted(surpluses(book, more).values()) not in (
                        [0] * len(book.chords), [-1] + [0] * (len(book.chords) - 2) + [1]):
                    self.check_error(WrongNumbers, more, song_of, book, chord, more)


if __name__ == "__main__":
    unittest.main()
