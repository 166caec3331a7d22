"""Singers [3], [5]: what they sing and take back, what they tell, and when they are equal."""

import inspect
import itertools
import random
import unittest

from heldtones.books import Book, follow
from heldtones.errors import NothingToUndo, UnknownChange, UnknownChord, WrongSong
from heldtones.singers import Singer, SteadySinger
from tests.cases import ErrorCase
from tests.drawn import UNISON, draw, plus

FIFTH, THIRD = (-1, 1, 0), (-2, 0, 1)
ONE = [UNISON, FIFTH, THIRD]
NO_NAMES = ["", "C", "nochangeis", "~", "no such", "c", "x" * 3000]
CLASSES = (Singer, SteadySinger)


def around():
    """Two chords with ways between them, one change that drifts, one that stays, and a dead end."""
    return Book([("c", ONE), ("g", ONE), ("end", [UNISON])],
                [("up", "c", 1, "g", 0), ("down", "g", 0, "c", 1), ("high", "g", 2, "c", 0),
                 ("stay", "c", 2, "c", 2), ("out", "g", 0, "end", 0), ("wide", "c", 2, "c", 1)])


def state(singer):
    """All that a singer tells."""
    return (singer.chord, singer.pitch, singer.song, singer.able(), singer.drift(), len(singer))


def places(book, chord, song):
    """The chords and pitches of a song from a chord, worked out apart from the program."""
    table = {name: (first, second) for name, first, _, second, _ in book.changes}
    told = [(chord, UNISON)]
    for name in song:
        assert table[name][0] == told[-1][0]
        told.append((table[name][1], plus(told[-1][1], book.shift(name))))
    return told


class SingerCase(ErrorCase):
    def check_state(self, singer, book, chord, song):
        """Check all that a singer tells against a song from a chord."""
        trail = places(book, chord, song)
        now, pitch = trail[-1]
        self.assertEqual((singer.chord, singer.pitch, singer.song, len(singer)),
                         (now, pitch, song, len(song)))
        kinds = [type(told) for told in (singer.chord, singer.pitch, singer.song, singer.able())]
        self.assertEqual(kinds, [str, tuple, list, list])
        drift = None
        for other, before in trail[:-1]:
            if other == now:
                drift = plus(pitch, before, -1)
        self.assertEqual(singer.drift(), drift)
        able = [change[0] for change in book.changes if change[1] == now]
        if type(singer) is SteadySinger:
            able = [name for name in able if self.is_steady(book, chord, song + [name])]
        self.assertEqual(singer.able(), able)

    def is_steady(self, book, chord, song):
        trail = places(book, chord, song)
        return len(set(trail)) == len({other for other, _ in trail})

    def check_unmoved(self, singer, error, value, call, *arguments, **named):
        """Check that a call raises an error and that the singer tells the same as before."""
        before = state(singer)
        self.check_error(error, value, call, *arguments, **named)
        self.assertEqual(state(singer), before)


class FormTest(unittest.TestCase):
    def test_names_of_arguments(self):
        for kind in CLASSES:
            for call, names in [(kind, "book chord"), (kind.__call__, "self name"),
                                (kind.sing_all, "self song"), (kind.able, "self"),
                                (kind.drift, "self"), (kind.undo, "self")]:
                told = inspect.signature(call).parameters
                self.assertEqual(" ".join(told), names)
                self.assertEqual({each.kind for each in told.values()},
                                 {inspect.Parameter.POSITIONAL_OR_KEYWORD})

    def test_properties(self):
        for kind in CLASSES:
            for name in ("chord", "pitch", "song"):
                self.assertIsInstance(inspect.getattr_static(kind, name), property)

    def test_a_steady_singer_is_a_singer(self):
        self.assertTrue(issubclass(SteadySinger, Singer))
        self.assertIsInstance(SteadySinger(around(), "c"), Singer)


class BeginTest(SingerCase):
    def test_begin(self):
        for kind in CLASSES:
            for chord in ("c", "g", "end"):
                self.check_state(kind(around(), chord), around(), chord, [])
                self.check_state(kind(chord=chord, book=around()), around(), chord, [])

    def test_without_a_change(self):
        for kind in CLASSES:
            singer = kind(around(), "g")
            self.assertEqual(state(singer),
                             ("g", UNISON, [], ["down", "high", "out"], None, 0))
            self.assertEqual(state(kind(Book([("c", [])], []), "c")), ("c", UNISON, [], [], None, 0))

    def test_unknown_chord(self):
        for kind in CLASSES:
            for name in NO_NAMES[:-2] + ["up", "d", "x" * 3000]:
                self.check_error(UnknownChord, name, kind, around(), name)
                self.check_error(UnknownChord, name, kind, Book([], []), chord=name)
            for name in ("c", "up"):
                self.check_error(UnknownChord, name, kind, Book([], []), name)


class SingTest(SingerCase):
    def test_one_by_one(self):
        singer = Singer(around(), "c")
        song = ["up", "high", "stay", "wide", "up", "down", "up", "out"]
        for many, name in enumerate(song, 1):
            told = singer(name)
            self.assertEqual(told, places(around(), "c", song[:many])[-1][1])
            self.assertEqual([type(told)] + [type(part) for part in told], [tuple] + [int] * 3)
            self.check_state(singer, around(), "c", song[:many])

    def test_by_name(self):
        for kind in CLASSES:
            singer = kind(around(), "c")
            self.assertEqual(singer(name="up"), FIFTH)
            self.assertEqual(singer.sing_all(song=["down", "stay"]), UNISON)
            self.check_state(singer, around(), "c", ["up", "down", "stay"])

    def test_a_chord_from_which_no_change_leads(self):
        for kind in CLASSES:
            singer = kind(around(), "g")
            self.assertEqual(singer("out"), UNISON)
            self.assertEqual(state(singer), ("end", UNISON, ["out"], [], None, 1))
            for name in ("up", "out", "down"):
                self.check_unmoved(singer, WrongSong, name, singer, name)

    def test_a_chord_to_which_no_change_leads(self):
        book = Book([("from", ONE), ("to", ONE)], [("on", "from", 2, "to", 0), ("at", "to", 0, "to", 0)])
        for kind in CLASSES:
            singer = kind(book, "from")
            self.assertEqual(singer("on"), THIRD)
            self.assertEqual(singer.drift(), None)
            self.assertEqual(singer("at"), THIRD)
            self.assertEqual(singer.drift(), UNISON)
            self.check_unmoved(singer, WrongSong, "on", singer, "on")
            singer.undo()
            singer.undo()
            self.check_state(singer, book, "from", [])

    def test_drift_is_since_the_last_time(self):
        singer = Singer(around(), "c")
        self.assertIsNone(singer.drift())
        singer("wide")
        self.assertEqual(singer.drift(), plus(THIRD, FIFTH, -1))
        singer("stay")
        self.assertEqual(singer.drift(), UNISON)
        singer("up")
        self.assertIsNone(singer.drift())
        singer("down")
        self.assertEqual(singer.drift(), UNISON)
        singer.sing_all(["up", "high"])
        self.assertEqual(singer.drift(), plus(FIFTH, THIRD))
        singer("up")
        # Since the time before: high, and not all that was sung.
        self.assertEqual(singer.drift(), plus(FIFTH, THIRD))
        self.assertNotEqual(singer.pitch, plus(FIFTH, THIRD))

    def test_unknown_change(self):
        for kind in CLASSES:
            for begin in ([], ["up"], ["up", "out"]):
                singer = kind(around(), "c")
                singer.sing_all(begin)
                for name in NO_NAMES + ["g"]:
                    self.check_unmoved(singer, UnknownChange, name, singer, name)
                    self.check_unmoved(singer, UnknownChange, name, singer, name=name)
            self.check_error(UnknownChange, "c", kind(Book([("c", [])], []), "c"), "c")

    def test_wrong_song(self):
        for kind in CLASSES:
            singer = kind(around(), "c")
            for name in ("down", "high", "out"):
                self.check_unmoved(singer, WrongSong, name, singer, name)
            singer("up")
            for name in ("up", "stay", "wide"):
                self.check_unmoved(singer, WrongSong, name, singer, name)
            self.check_state(singer, around(), "c", ["up"])

    def test_at_the_bounds(self):
        tones = [(99, -99, k) for k in range(7)] + [(-99, 99, 99)]
        names = ["chord" + sign for sign in "abcdefghijkl"]
        ends = list(zip(names, names[1:] + names[:1]))
        book = Book([(name, tones) for name in names],
                    [("to" + other[5:], one, 0, other, 7) for one, other in ends])
        singer = Singer(book, "chorda")
        song = (["to" + other[5:] for _, other in ends] * 17)[:200]
        for name in song[:-60]:
            singer(name)
        self.assertEqual(singer.sing_all(song[-60:]), (39600, -39600, -19800))
        self.check_state(singer, book, "chorda", song)
        self.assertEqual(singer.drift(), (12 * 198, -12 * 198, -12 * 99))


class SingAllTest(SingerCase):
    def test_songs(self):
        for begin, song in itertools.product([[], ["stay"], ["up", "down"]],
                                             [[], ["stay"], ["up"], ["wide", "up", "high", "stay"]]):
            singer = Singer(around(), "c")
            singer.sing_all(begin)
            handed = list(song)
            self.assertEqual(singer.sing_all(handed), places(around(), "c", begin + song)[-1][1])
            self.assertEqual(handed, song)
            self.check_state(singer, around(), "c", begin + song)

    def test_a_song_of_nothing(self):
        for kind in CLASSES:
            singer = kind(around(), "c")
            self.assertEqual(singer.sing_all([]), UNISON)
            self.check_state(singer, around(), "c", [])
            singer("up")
            self.assertEqual(singer.sing_all([]), FIFTH)
            self.check_state(singer, around(), "c", ["up"])

    def test_the_song_is_not_kept(self):
        singer = Singer(around(), "c")
        song = ["up", "down"]
        singer.sing_all(song)
        song.append("stay")
        self.assertEqual(singer.song, ["up", "down"])
        song.clear()
        self.assertEqual((singer.song, len(singer)), (["up", "down"], 2))

    def test_its_own_song_again(self):
        singer = Singer(around(), "c")
        singer.sing_all(["up", "high"])
        self.assertEqual(singer.sing_all(singer.song), plus(UNISON, plus(FIFTH, THIRD), 2))
        self.assertEqual(singer.song, ["up", "high"] * 2)

    def test_errors_are_of_the_first_that_cannot_be_sung(self):
        for kind, begin in itertools.product(CLASSES, ([], ["up", "down"])):
            singer = kind(around(), "c")
            singer.sing_all(begin)
            for song, error, value in [
                (["none"], UnknownChange, "none"),
                (["up", "none"], UnknownChange, "none"),
                (["down", "none"], WrongSong, "down"),
                (["none", "down"], UnknownChange, "none"),
                (["up", "up", "none"], WrongSong, "up"),
                (["up", "none", "up", "up"], UnknownChange, "none"),
                (["stay", "stay", "out", "down"], WrongSong, "out"),
                (["up", "out", "down"], WrongSong, "down"),
                (["up", "out", "out"], WrongSong, "out"),
                (["up", "", "none"], UnknownChange, ""),
                (["stay"] * 59 + ["high"], WrongSong, "high"),
            ]:
                handed = list(song)
                self.check_unmoved(singer, error, value, singer.sing_all, handed)
                self.check_unmoved(singer, error, value, singer.sing_all, song=handed)
                self.assertEqual(handed, song)
            self.check_state(singer, around(), "c", begin)


class UndoTest(SingerCase):
    def test_undo(self):
        for kind in CLASSES:
            singer = kind(around(), "c")
            song = ["up", "down", "stay", "up", "out"]
            for name in song:
                singer(name)
            while song:
                self.assertIsNone(singer.undo())
                song.pop()
                self.check_state(singer, around(), "c", song)

    def test_nothing_to_undo(self):
        for kind in CLASSES:
            singer = kind(around(), "g")
            self.check_unmoved(singer, NothingToUndo, 0, singer.undo)
            singer.sing_all([])
            self.check_unmoved(singer, NothingToUndo, 0, singer.undo)
            singer.sing_all(["down", "stay"])
            singer.undo()
            singer.undo()
            self.check_unmoved(singer, NothingToUndo, 0, singer.undo)
            # What could not be sung is nothing to take back.
            self.check_unmoved(singer, WrongSong, "down", singer.sing_all, ["down", "down"])
            self.check_unmoved(singer, NothingToUndo, 0, singer.undo)

    def test_the_last_one_of_several_sung_at_once(self):
        for kind in CLASSES:
            singer = kind(around(), "c")
            singer.sing_all(["up", "down", "up"])
            singer.undo()
            self.check_state(singer, around(), "c", ["up", "down"])
            singer("stay")
            singer.undo()
            singer.undo()
            self.check_state(singer, around(), "c", ["up"])

    def test_what_is_taken_back_counts_for_nothing(self):
        singer = Singer(around(), "c")
        singer.sing_all(["wide", "up"])
        singer.undo()
        singer.undo()
        self.assertIsNone(singer.drift())
        self.assertEqual(singer("stay"), UNISON)
        self.assertEqual(singer.drift(), UNISON)
        self.assertEqual(singer, Singer(around(), "c"))


class SteadyTest(SingerCase):
    def test_a_change_that_would_drift(self):
        singer = SteadySinger(around(), "c")
        self.assertEqual(singer.able(), ["up", "stay"])
        self.check_unmoved(singer, WrongSong, "wide", singer, "wide")
        self.assertEqual(singer("up"), FIFTH)
        self.assertEqual(singer.able(), ["down", "out"])
        self.check_unmoved(singer, WrongSong, "high", singer, "high")
        self.assertEqual(singer("down"), UNISON)
        self.assertEqual(singer.drift(), UNISON)

    def test_within_a_song(self):
        for song, value in [(["wide"], "wide"), (["stay", "wide", "none"], "wide"),
                            (["up", "high"], "high"), (["up", "down", "up", "high", "high"], "high"),
                            (["stay", "up", "down", "wide", "down"], "wide")]:
            singer = SteadySinger(around(), "c")
            self.check_unmoved(singer, WrongSong, value, singer.sing_all, song)
            singer("stay")
            self.check_unmoved(singer, WrongSong, value, singer.sing_all, song)
            # A singer who is not steady is held up by what is none alone.
            self.assertEqual(Singer(around(), "c").sing_all(song[:song.index(value)] + [value]),
                             follow(around(), "c", song[:song.index(value)] + [value])[1])

    def test_a_chord_that_the_song_itself_came_to(self):
        singer = SteadySinger(around(), "g")
        # The chord c is come to by the song first: by high it is another pitch than by down.
        self.check_unmoved(singer, WrongSong, "high", singer.sing_all, ["down", "up", "high"])
        self.check_unmoved(singer, WrongSong, "up", singer.sing_all, ["high", "stay", "up"])
        self.assertEqual(singer.able(), ["down", "high", "out"])

    def test_behind_an_undo(self):
        singer = SteadySinger(around(), "g")
        singer("down")
        singer("up")
        self.check_unmoved(singer, WrongSong, "high", singer, "high")
        singer.undo()
        singer.undo()
        # It was never at c now.
        self.assertEqual(singer.able(), ["down", "high", "out"])
        self.assertEqual(singer("high"), THIRD)
        self.check_unmoved(singer, WrongSong, "up", singer, "up")
        self.assertEqual(singer.able(), ["stay"])
        singer.undo()
        self.assertEqual(singer("down"), (1, -1, 0))
        self.assertEqual(singer.able(), ["up", "stay"])

    def test_undo_does_not_take_back_an_earlier_time(self):
        singer = SteadySinger(around(), "g")
        singer.sing_all(["down", "stay", "up"])
        singer.undo()
        singer.undo()
        singer("up")
        # It was at c still, by down.
        self.check_unmoved(singer, WrongSong, "high", singer, "high")

    def test_an_error_leaves_no_place_behind(self):
        singer = SteadySinger(around(), "g")
        self.check_unmoved(singer, WrongSong, "out", singer.sing_all, ["down", "out"])
        self.assertEqual(singer("high"), THIRD)

    def test_the_order_of_errors(self):
        singer = SteadySinger(around(), "c")
        self.check_unmoved(singer, UnknownChange, "none", singer.sing_all, ["none", "wide"])
        self.check_unmoved(singer, WrongSong, "high", singer.sing_all, ["high", "none"])
        self.check_unmoved(singer, WrongSong, "wide", singer.sing_all, ["wide", "none"])

    def test_it_never_drifts(self):
        source = random.Random(71)
        held = 0
        for _ in range(150):
            book = draw(source)
            singer = SteadySinger(book, source.choice(book.chords)[0])
            for _ in range(20):
                able = singer.able()
                if not able:
                    break
                singer(source.choice(able))
                self.assertIn(singer.drift(), (None, UNISON))
                held += singer.drift() == UNISON
        self.assertGreater(held, 100)


class EqualTest(SingerCase):
    def test_other_songs_to_the_same_place(self):
        for kind in CLASSES:
            one, other = kind(around(), "c"), kind(around(), "c")
            self.assertEqual(one, other)
            one.sing_all(["up", "down"])
            other("stay")
            self.assertIs(one == other, True)
            self.assertIs(one != other, False)
            self.assertEqual(one, kind(around(), "c"))
            other("up")
            self.assertIs(one == other, False)
            self.assertIs(one != other, True)
            one("up")
            self.assertEqual(one, other)

    def test_another_pitch_or_chord(self):
        one, other = Singer(around(), "c"), Singer(around(), "c")
        other("wide")
        self.assertEqual(one.chord, other.chord)
        self.assertNotEqual(one, other)
        self.assertNotEqual(Singer(around(), "c"), Singer(around(), "g"))
        # Begun at another chord, and come to the same one at the same pitch.
        one, other = Singer(around(), "g"), Singer(around(), "end")
        one("out")
        self.assertEqual(one, other)

    def test_books(self):
        for kind in CLASSES:
            book = around()
            self.assertEqual(kind(book, "c"), kind(book, "c"))
            self.assertEqual(kind(book, "c"), kind(around(), "c"))
            self.assertNotEqual(kind(book, "c"), kind(book.without("out"), "c"))
            self.assertNotEqual(kind(book, "c"), kind(Book(book.chords, book.changes[::-1]), "c"))
            self.assertNotEqual(kind(book, "c"), kind(Book(book.chords[::-1], book.changes), "c"))
            self.assertEqual(kind(book, "c"), kind(book.backward().backward(), "c"))
            self.assertNotEqual(kind(book, "c"), kind(book.backward(), "c"))

    def test_a_steady_singer_beside_another_one(self):
        singer, steady = Singer(around(), "c"), SteadySinger(around(), "c")
        for one, other in [(singer, steady), (steady, singer)]:
            self.assertIs(one == other, False)
            self.assertIs(one != other, True)
            self.assertIs(type(one).__eq__(one, other), False)

    def test_anything_else(self):
        for singer in (Singer(around(), "c"), SteadySinger(around(), "c")):
            for other in [None, 0, "c", [], ("c", UNISON), around(), UNISON, object()]:
                self.assertIs(singer == other, False)
                self.assertIs(other == singer, False)
                self.assertIs(singer != other, True)


class ApartTest(SingerCase):
    def test_told_lists_are_new(self):
        for kind in CLASSES:
            singer = kind(around(), "c")
            singer.sing_all(["up", "down"])
            for tell in (lambda: singer.song, singer.able):
                one, other = tell(), tell()
                self.assertIsNot(one, other)
                same = list(one)
                one.clear()
                self.assertEqual((other, tell()), (same, same))
            self.check_state(singer, around(), "c", ["up", "down"])

    def test_singers_of_one_book(self):
        book = around()
        singers = [Singer(book, "c"), SteadySinger(book, "c"), Singer(book, "c")]
        singers[0].sing_all(["wide", "up", "out"])
        singers[2]("stay")
        self.check_state(singers[0], book, "c", ["wide", "up", "out"])
        self.check_state(singers[1], book, "c", [])
        self.check_state(singers[2], book, "c", ["stay"])
        singers[0].undo()
        self.check_state(singers[1], book, "c", [])
        self.check_state(singers[2], book, "c", ["stay"])
        self.assertEqual(book, around())

    def hindrance(self, kind, book, chord, song, names):
        """The first error of names that a singer behind a song is to sing, None if there is none."""
        sung = list(song)
        table = {change[0]: change for change in book.changes}
        for name in names:
            if name not in table:
                return (UnknownChange, name)
            if table[name][1] != places(book, chord, sung)[-1][0]:
                return (WrongSong, name)
            sung.append(name)
            if kind is SteadySinger and not self.is_steady(book, chord, sung):
                return (WrongSong, name)
        return None

    def test_drawn(self):
        source = random.Random(72)
        seen = {kind: 0 for kind in (UnknownChange, WrongSong, NothingToUndo, None)}
        for turn in range(200):
            book = draw(source, chords=1 + turn % 8)
            chord = source.choice(book.chords)[0]
            kind = CLASSES[turn % 2]
            singer, song = kind(book, chord), []
            names = [change[0] for change in book.changes] * 4 + ["none"]
            for _ in range(40):
                more = [source.choice(names) for _ in range(source.randint(0, 2))]
                if source.random() < 0.5:
                    more = [source.choice(singer.able() * 3 + names)]
                if source.random() < 0.2:
                    error = None if song else (NothingToUndo, 0)
                    call, arguments, after = singer.undo, [], song[:-1]
                else:
                    error = self.hindrance(kind, book, chord, song, more)
                    call, arguments, after = singer.sing_all, [more], song + more
                    if len(more) == 1 and source.random() < 0.7:
                        call, arguments = singer, more
                seen[error and error[0]] += 1
                if error:
                    self.check_error(*error, call, *arguments)
                else:
                    pitch = places(book, chord, after)[-1][1]
                    self.assertEqual(call(*arguments), None if call == singer.undo else pitch)
                    song = after
                self.check_state(singer, book, chord, song)
        self.assertGreater(min(seen.values()), 100)


if __name__ == "__main__":
    unittest.main()
