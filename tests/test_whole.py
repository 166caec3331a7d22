"""What holds over the whole program: points [2] and [4] to [8], over all modules at once."""

import copy
import random
import unittest

from heldtones.books import Book, changes_of, follow, parts
from heldtones.drifts import can_come, come_numbers, judge_numbers, judge_rests, lattice, rests
from heldtones.errors import ToneError, WrongSong
from heldtones.heights import highest, highest_song, lowest, lowest_song, rising, sinking
from heldtones.pitches import (
    drifting, even_numbers, is_even, judge_even, judge_weights, keeps, pitches, song_of, weights,
)
from heldtones.ratios import is_greater, over, times
from heldtones.readings import read_book, read_ratio
from heldtones.singers import Singer, SteadySinger
from heldtones.texts import show_book, show_ratio
from tests.drawn import UNISON, draw, draw_even, is_multiple_of_rows


def answer(ask, *arguments):
    """What is told, or the error that is raised."""
    try:
        return ask(*arguments)
    except ToneError as error:
        return (type(error), error.value)


def questions(book):
    """All that is asked of a book, each as (function, arguments behind the book)."""
    names = [name for name, _ in book.chords]
    ways = [change[0] for change in book.changes]
    told = [(ask, ()) for ask in (parts, pitches, drifting, show_book)]
    told += [(ask, (name,)) for name in names + ["none"] for ask in (
        changes_of, is_even, lattice, highest, lowest, highest_song, lowest_song, rising, sinking)]
    told += [(ask, (name,)) for name in ways + ["none"] for ask in (even_numbers, weights)]
    told += [(Book.shift, (name,)) for name in ways + ["none"]]
    told += [(Book.__getitem__, (name,)) for name in names + ["none"]]
    told += [(follow, (name, ways[:many])) for name in names for many in range(3)]
    told += [(song_of, (name, [(way, 1) for way in ways[:2]])) for name in names]
    told += [(ask, (one, other, ratio)) for one in names for other in names[:2] + ["none"]
             for ratio in [UNISON, (-1, 1, 0)] for ask in (can_come, come_numbers, rests)]
    return told


def ask_all(book, asked):
    return [answer(ask, book, *arguments) for ask, arguments in asked]


def wander(source, singer, most):
    """Let a singer sing changes that are drawn."""
    for _ in range(source.randint(0, most)):
        able = singer.able()
        if able:
            singer(source.choice(able))


class BooksTest(unittest.TestCase):
    def drawn(self, seed, many):
        source = random.Random(seed)
        for turn in range(many):
            yield source, draw_even(source, 1 + turn % 4) if turn % 2 else draw(source, 1 + turn % 4)


class ReadBooksTest(BooksTest):
    def test_a_book_that_is_read_tells_the_same(self):
        for _, book in self.drawn(91, 60):
            again = read_book(show_book(book))
            self.assertEqual(again, book)
            self.assertEqual((again.chords, again.changes), (book.chords, book.changes))
            asked = questions(book)
            self.assertEqual(ask_all(again, asked), ask_all(book, asked))
            self.assertEqual(again.backward(), book.backward())
            for change in book.changes:
                self.assertEqual(again.without(change[0]), book.without(change[0]))

    def test_papers_of_a_book_hold_for_the_one_that_is_read(self):
        for _, book in self.drawn(92, 60):
            again = read_book(show_book(book))
            told = pitches(book)
            if told is not None:
                self.assertIs(keeps(again, told), True)
            for name in [change[0] for change in book.changes]:
                numbers, paper = even_numbers(book, name), weights(book, name)
                self.assertIs(numbers is None, paper is not None)
                if numbers is None:
                    self.assertIs(judge_weights(again, name, paper), True)
                else:
                    self.assertIs(judge_even(again, name, numbers), True)
            for part in [part for part in parts(book) if is_even(book, part[0])]:
                for ratio in [UNISON, (-1, 1, 0), (1, 1, 1)]:
                    ends = (part[0], part[-1], ratio)
                    numbers, paper = come_numbers(book, *ends), rests(book, *ends)
                    self.assertIs(numbers is None, paper is not None)
                    if numbers is None:
                        self.assertIs(judge_rests(again, *ends, paper), True)
                    else:
                        self.assertIs(judge_numbers(again, *ends, numbers), True)

    def test_singers_of_a_book_and_of_the_one_that_is_read(self):
        for source, book in self.drawn(93, 40):
            chord = source.choice(book.chords)[0]
            for kind in (Singer, SteadySinger):
                singer = kind(book, chord)
                wander(source, singer, 12)
                other = kind(read_book(show_book(book)), chord)
                other.sing_all(singer.song)
                self.assertEqual(singer, other)
                self.assertEqual((singer.able(), singer.drift()), (other.able(), other.drift()))

    def test_ratios_that_are_told(self):
        for _, book in self.drawn(94, 40):
            for change in book.changes:
                shift = book.shift(change[0])
                self.assertEqual(read_ratio(show_ratio(shift)), shift)


class SingersTest(BooksTest):
    def test_follow(self):
        for source, book in self.drawn(95, 100):
            for chord, _ in book.chords:
                singer = Singer(book, chord)
                wander(source, singer, 20)
                self.assertEqual(follow(book, chord, singer.song), (singer.chord, singer.pitch))
                for name in [change[0] for change in book.changes]:
                    told = answer(follow, book, chord, singer.song + [name])
                    self.assertIs(name in singer.able(), told[0] is not WrongSong)
                self.assertEqual(Singer(book, chord).sing_all(singer.song), singer.pitch)

    def test_pitches(self):
        seen = 0
        for source, book in self.drawn(96, 150):
            told = pitches(book)
            self.assertIs(told is None, drifting(book) is not None)
            for part in parts(book) if told is not None else []:
                singer, steady = Singer(book, part[0]), SteadySinger(book, part[0])
                for _ in range(12):
                    inside = [name for name in singer.able() if name in changes_of(book, part[0])]
                    # No song drifts, so a steady singer sings whatever another one does.
                    self.assertEqual(steady.able(), singer.able())
                    if inside:
                        singer(source.choice(inside))
                        steady(singer.song[-1])
                        self.assertEqual(singer.pitch, dict(told)[singer.chord])
                        self.assertIn(singer.drift(), (None, UNISON))
                        seen += 1
        self.assertGreater(seen, 100)

    def test_drifting(self):
        seen = 0
        for _, book in self.drawn(97, 150):
            found = drifting(book)
            if found is not None:
                chord, song = found
                singer, steady = Singer(book, chord), SteadySinger(book, chord)
                self.assertEqual(singer.sing_all(song), singer.drift())
                self.assertNotEqual(singer.drift(), UNISON)
                self.assertEqual(answer(steady.sing_all, song), (WrongSong, song[-1]))
                self.assertEqual(steady.sing_all(song[:-1]), follow(book, chord, song[:-1])[1])
                seen += 1
        self.assertGreater(seen, 50)

    def test_highest_and_lowest(self):
        seen = [0, 0]
        for source, book in self.drawn(98, 100):
            for chord, _ in book.chords:
                top, bottom = highest(book, chord), lowest(book, chord)
                singer = Singer(book, chord)
                for _ in range(15):
                    self.assertFalse(top is not None and is_greater(singer.pitch, top))
                    self.assertFalse(bottom is not None and is_greater(bottom, singer.pitch))
                    wander(source, singer, 2)
                for extreme, song, endless, upward in [
                    (top, highest_song(book, chord), rising(book, chord), True),
                    (bottom, lowest_song(book, chord), sinking(book, chord), False),
                ]:
                    singer = Singer(book, chord)
                    if extreme is None:
                        self.check_endless(singer, *endless, upward)
                        seen[0] += 1
                    else:
                        self.assertEqual(singer.sing_all(song), extreme)
                        seen[1] += 1
        self.assertGreater(min(seen), 50)

    def check_endless(self, singer, lead, around, upward):
        before = singer.sing_all(lead)
        drift = over(singer.sing_all(around), before)
        self.assertIs(is_greater(drift, UNISON), upward)
        self.assertIs(is_greater(UNISON, drift), not upward)
        self.assertEqual(singer.sing_all(around), times(times(before, drift), drift))

    def test_can_come(self):
        seen = 0
        for source, book in self.drawn(99, 150):
            for part in [part for part in parts(book) if is_even(book, part[0])]:
                singer = Singer(book, part[0])
                rows = lattice(book, part[0])
                for _ in range(8):
                    inside = [name for name in singer.able() if name in changes_of(book, part[0])]
                    if not inside:
                        break
                    singer(source.choice(inside))
                    ends = (part[0], singer.chord, singer.pitch)
                    self.assertIs(can_come(book, *ends), True)
                    self.assertIsNone(rests(book, *ends))
                    numbers = [(name, singer.song.count(name)) for name in set(singer.song)]
                    self.assertIs(judge_numbers(book, *ends, numbers), True)
                    other = Singer(book, part[0])
                    other.sing_all(song_of(book, part[0], numbers))
                    self.assertEqual(other, singer)
                    self.assertTrue(singer.drift() is None or is_multiple_of_rows(singer.drift(), rows))
                    seen += 1
        self.assertGreater(seen, 200)


class OrderTest(BooksTest):
    def test_no_answer_hangs_on_what_was_asked_ahead(self):
        for source, book in self.drawn(100, 40):
            asked = questions(book)
            # Each is asked once of a book of its own, of which nothing else was asked.
            alone = [answer(ask, Book(book.chords, book.changes), *arguments)
                     for ask, arguments in asked]
            kept = copy.deepcopy(alone)
            order = list(range(len(asked)))
            for _ in range(2):
                source.shuffle(order)
                singers = [Singer(book, chord) for chord, _ in book.chords]
                for place in order:
                    wander(source, source.choice(singers), 2)
                    ask, arguments = asked[place]
                    told = answer(ask, book, *arguments)
                    self.assertEqual(told, kept[place])
                    empty_lists(told)
            self.assertEqual(alone, kept)
            self.assertEqual(book, Book(book.chords, book.changes))

    def test_what_a_singer_tells_does_not_hang_on_questions(self):
        for source, book in self.drawn(101, 30):
            chord = source.choice(book.chords)[0]
            one = Singer(book, chord)
            wander(source, one, 10)
            other = Singer(book, chord)
            for name in one.song:
                ask_all(book, questions(book)[::7])
                self.assertIn(name, other.able())
                other(name)
            self.assertEqual((one, one.song, one.drift()), (other, other.song, other.drift()))


def empty_lists(told):
    """Empty all lists in what was told, as whoever was told it may."""
    if type(told) in (list, tuple):
        for part in told:
            empty_lists(part)
    if type(told) is list:
        told.clear()


if __name__ == "__main__":
    unittest.main()
