"""Pitches that can be come to [3], [5], [6], [8]: the lattice, numbers, rests and their judges."""

import itertools
import random
import unittest

from heldtones.books import Book, follow
from heldtones.drifts import can_come, come_numbers, judge_numbers, judge_rests, lattice, rests
from heldtones.errors import NotEven, UnknownChord, UnlikeParts
from heldtones.pitches import even_numbers, is_even, song_of
from tests.cases import ErrorCase
from tests.drawn import (
    UNISON, changes_in, check_form, check_rests, draw, draw_even, hang_together,
    is_multiple_of_rows, part_of, part_rounds, plus, shift_of, songs, surpluses,
)

FIFTH, THIRD = (-1, 1, 0), (-2, 0, 1)
ONE = [UNISON, FIFTH, THIRD]
NO_NAMES = ["", "C", "nochordis", "~", "no such", "up"]
STILL = (0, (0, 0, 0), [])


def two_ways():
    """The book of the document: to another chord by two ways, and back by both."""
    return Book([("c", ONE), ("g", ONE)],
                [("up", "c", 1, "g", 0), ("down", "g", 0, "c", 1), ("two", "c", 1, "g", 2),
                 ("back", "g", 2, "c", 1)])


def loops(*drifts):
    """One chord with changes that drift so, and others that undo them."""
    tones = list(dict.fromkeys((UNISON,) + drifts))
    changes = []
    for sign, drift in zip("abcd", drifts):
        place = tones.index(drift)
        changes += [("up" + sign, "c", place, "c", 0), ("down" + sign, "c", 0, "c", place)]
    return Book([("c", tones)], changes)


def apart():
    """Parts that are even, uneven, even without a change, and two changes in no part."""
    return Book([("a", ONE), ("b", ONE), ("x", ONE), ("y", ONE), ("z", [])],
                [("yy", "y", 0, "y", 0), ("xy", "x", 1, "y", 0), ("ab", "a", 1, "b", 0),
                 ("ax", "a", 0, "x", 0), ("yx", "y", 0, "x", 0), ("ba", "b", 0, "a", 1),
                 ("by", "b", 0, "y", 0)])


def check_comes(case, book, chord, other, ratio, numbers):
    """Check that numbers are those of a song from a chord to another one with a shift."""
    check_form(case, book, numbers)
    case.assertEqual(shift_of(book, numbers), ratio)
    aim = {name: (name == other) - (name == chord) for name, _ in book.chords}
    case.assertEqual(surpluses(book, numbers), aim)
    case.assertTrue(hang_together(book, chord, numbers))
    if sum(dict(numbers).values()) <= 200:
        case.assertEqual(follow(book, chord, song_of(book, chord, numbers)), (other, ratio))


class DriftsCase(ErrorCase):
    def check(self, book, chord, other, ratio, comes):
        """Check all that is asked of a ratio against whether it can be come to."""
        self.assertIs(can_come(book, chord, other, ratio), comes)
        numbers = come_numbers(book, chord, other, ratio)
        told = rests(book, chord, other, ratio)
        if comes:
            self.assertIsNone(told)
            check_comes(self, book, chord, other, ratio, numbers)
            self.assertIs(judge_numbers(book, chord, other, ratio, numbers), True)
            self.assertIs(judge_numbers(book, chord, other, ratio, numbers[::-1]), True)
        else:
            self.assertIsNone(numbers)
            check_rests(self, book, chord, other, ratio, told)
            self.assertIs(judge_rests(book, chord, other, ratio, told), True)
            turned = (told[0], told[1], told[2][::-1])
            self.assertIs(judge_rests(book, chord, other, ratio, turned), True)

    def check_rows(self, rows):
        self.assertIs(type(rows), list)
        places = []
        for row in rows:
            self.assertEqual([type(row)] + [type(part) for part in row], [tuple] + [int] * 3)
            places.append(next(k for k in range(3) if row[k] != 0))
            self.assertGreater(row[places[-1]], 0)
        self.assertEqual(places, sorted(set(places)))
        for (one, ahead), (other, _) in itertools.combinations(zip(rows, places), 2):
            place = next(k for k in range(3) if other[k] != 0)
            self.assertTrue(0 <= one[place] < other[place])


class LatticeTest(DriftsCase):
    def test_the_document(self):
        self.assertEqual([lattice(two_ways(), name) for name in "cg"], [[(2, 0, -1)]] * 2)

    def test_nothing(self):
        self.assertEqual(lattice(Book([("c", [])], []), "c"), [])
        self.assertEqual(lattice(Book([("c", ONE)], [("stay", "c", 1, "c", 1)]), "c"), [])
        self.assertEqual(lattice(two_ways().without("two").without("back"), "g"), [])

    def test_one_row(self):
        for drift, row in [((2, 0, -1), (2, 0, -1)), ((-2, 0, 1), (2, 0, -1)), ((0, -3, 2), (0, 3, -2)),
                           ((0, 0, -4), (0, 0, 4)), ((4, 4, 4), (4, 4, 4)), ((-1, 0, 4), (1, 0, -4))]:
            self.assertEqual(lattice(loops(drift), "c"), [row])

    def test_several_rows(self):
        for drifts, rows in [
            [((4, 0, 0), (-3, 0, 0)), [(1, 0, 0)]],
            [((4, 0, 0), (2, 0, 0)), [(2, 0, 0)]],
            [((2, 0, 0), (3, 1, 0)), [(1, 1, 0), (0, 2, 0)]],
            [((3, 1, 0), (0, 2, 0)), [(3, 1, 0), (0, 2, 0)]],
            [((3, 3, 0), (0, 2, 0)), [(3, 1, 0), (0, 2, 0)]],
            [((3, -1, 1), (0, -2, -1)), [(3, 1, 2), (0, 2, 1)]],
            [((2, 3, -3), (0, 2, 3), (0, 0, 4)), [(2, 1, 2), (0, 2, 3), (0, 0, 4)]],
            [((0, 0, 3), (0, 4, 2), (1, -4, -4)), [(1, 0, 1), (0, 4, 2), (0, 0, 3)]],
            [((1, 1, 1), (2, 2, 2), (-3, -3, -3)), [(1, 1, 1)]],
            [((0, 4, 4), (0, 2, -2), (0, 3, 0)), [(0, 1, 0), (0, 0, 2)]],
            [((1, 0, 0), (0, 1, 0), (0, 0, 1)), [(1, 0, 0), (0, 1, 0), (0, 0, 1)]],
        ]:
            for turned in itertools.permutations(drifts):
                self.assertEqual(lattice(loops(*turned), "c"), rows)
                self.check_rows(rows)

    def test_songs_that_make_each_other_good(self):
        # No change has one that undoes it: three up are two down.
        tones = [UNISON, (2, 0, 0), (3, 0, 0)]
        book = Book([("c", tones)], [("up", "c", 1, "c", 0), ("down", "c", 0, "c", 2)])
        self.assertEqual(lattice(book, "c"), [(1, 0, 0)])
        for power in range(-7, 8):
            self.check(book, "c", "c", (power, 0, 0), True)
        self.check(book, "c", "c", (1, 1, 0), False)

    def test_other_parts_do_not_count(self):
        self.assertEqual([lattice(apart(), name) for name in "abz"], [[], [], []])

    def test_by_name_and_again(self):
        book = two_ways()
        told = lattice(chord="g", book=book)
        told.clear()
        rests(book, "c", "g", UNISON)
        self.assertEqual(lattice(book, "g"), [(2, 0, -1)])
        self.assertEqual(book, two_ways())


class ComeTest(DriftsCase):
    def test_the_document(self):
        book = two_ways()
        for power in range(-4, 5):
            drift = plus(UNISON, (2, 0, -1), power)
            for chord, other, way in [("c", "c", UNISON), ("g", "g", UNISON), ("c", "g", FIFTH),
                                      ("g", "c", (1, -1, 0))]:
                self.check(book, chord, other, plus(drift, way), True)
                for by in [(1, 0, 0), (0, 1, 0), (0, 0, 1), (0, -1, 0), (-1, 0, 0)]:
                    self.check(book, chord, other, plus(plus(drift, way), by), False)

    def test_one_chord_without_changes(self):
        book = Book([("c", []), ("d", ONE)], [])
        for chord in "cd":
            self.check(book, chord, chord, UNISON, True)
            self.assertEqual(come_numbers(book, chord, chord, UNISON), [])
            for ratio in [(1, 0, 0), (0, -1, 0), (0, 0, 7), (200, 200, -200)]:
                self.check(book, chord, chord, ratio, False)

    def test_a_change_that_does_not_drift(self):
        book = Book([("c", ONE)], [("stay", "c", 1, "c", 1)])
        self.check(book, "c", "c", UNISON, True)
        self.check(book, "c", "c", (0, 0, 1), False)

    def test_powers_that_are_not_whole(self):
        # Out of the span, or in it but no product of whole powers.
        book = loops((2, 0, 0), (1, 3, 0))
        for ratio, comes in [
            ((2, 0, 0), True), ((1, 0, 0), False), ((0, 3, 0), False), ((0, 6, 0), True),
            ((1, 3, 0), True), ((0, 1, 0), False), ((1, 1, 0), False), ((0, 0, 1), False),
            ((2, 0, 1), False), ((3, -3, 0), True), ((2, 3, 0), False), ((1, 2, 5), False),
        ]:
            self.check(book, "c", "c", ratio, comes)
        book = loops((2, 1, 3), (0, 3, 1), (0, 0, 4))
        for ratio in itertools.product(range(-3, 4), repeat=3):
            rows = [(2, 1, 3), (0, 3, 1), (0, 0, 4)]
            self.check(book, "c", "c", ratio, is_multiple_of_rows(ratio, rows))

    def test_large_ratios(self):
        book = loops((3, 0, -1), (0, 4, 1))
        self.check(book, "c", "c", plus(plus(UNISON, (3, 0, -1), 60), (0, 4, 1), -45), True)
        self.check(book, "c", "c", (200, -200, 200), False)
        self.check(loops((1, 0, 0), (0, 1, 0), (0, 0, 1)), "c", "c", (-200, 200, -200), True)
        self.check(two_ways(), "c", "g", (-200, -200, -200), False)

    def test_a_part_beside_others(self):
        book = apart()
        self.check(book, "a", "b", FIFTH, True)
        self.check(book, "b", "a", (1, -1, 0), True)
        self.check(book, "a", "b", UNISON, False)
        self.check(book, "z", "z", UNISON, True)
        self.check(book, "z", "z", (1, 1, 1), False)
        self.assertEqual([name for name, _ in come_numbers(book, "a", "b", FIFTH)][0], "ab")

    def test_round_by_other_chords(self):
        names = "abcde"
        steps = list(zip(names, names[1:] + names[0]))
        book = Book([(name, [UNISON, (-1, 1, 0), (3, -3, 0), (2, 0, 0)]) for name in names],
                    [(one + other, one, 1, other, 0) for one, other in steps]
                    + [("lower", "c", 0, "c", 1), ("other", "e", 3, "b", 3)])
        self.assertTrue(is_even(book, "a"))
        rows = lattice(book, "a")
        self.check_rows(rows)
        for k, one in enumerate(names):
            for j, other in enumerate(names):
                way = plus(UNISON, FIFTH, (j - k) % 5)
                for ratio in [way, plus(way, FIFTH), plus(way, FIFTH, -9), plus(way, THIRD)]:
                    comes = is_multiple_of_rows(plus(ratio, way, -1), rows)
                    self.check(book, one, other, ratio, comes)

    def test_by_name_and_again(self):
        book = two_ways()
        numbers = come_numbers(ratio=FIFTH, other="g", chord="c", book=book)
        same = list(numbers)
        numbers.append(("x", 1))
        told = rests(ratio=UNISON, other="g", chord="c", book=book)
        kept = (told[0], told[1], list(told[2]))
        told[2].clear()
        self.assertIs(can_come(ratio=FIFTH, other="g", chord="c", book=book), True)
        self.assertEqual(come_numbers(book, "c", "g", FIFTH), same)
        self.assertEqual(rests(book, "c", "g", UNISON), kept)
        self.assertEqual(book, two_ways())
        empty = come_numbers(Book([("c", [])], []), "c", "c", UNISON)
        empty.append(1)
        self.assertEqual(come_numbers(Book([("c", [])], []), "c", "c", UNISON), [])


class JudgeNumbersTest(DriftsCase):
    def judge(self, chord, other, ratio, numbers):
        before = list(numbers)
        told = judge_numbers(two_ways(), chord, other, ratio, numbers)
        self.assertEqual(numbers, before)
        return told

    def test_ordinary(self):
        for chord, other, ratio, numbers in [
            ("c", "g", FIFTH, [("up", 1)]),
            ("c", "g", (1, 1, -1), [("two", 1)]),
            ("c", "g", (1, 1, -1), [("down", 1), ("two", 1), ("up", 1)]),
            ("c", "c", (2, 0, -1), [("two", 1), ("down", 1)]),
            ("g", "g", (-2, 0, 1), [("up", 1), ("back", 1)]),
            ("g", "c", (1, -1, 0), [("down", 100), ("up", 99)]),
            ("c", "c", UNISON, [("up", 5), ("two", 5), ("back", 5), ("down", 5)]),
        ]:
            self.assertIs(self.judge(chord, other, ratio, numbers), True)
            self.assertIs(self.judge(chord, other, plus(ratio, (0, 0, 1)), numbers), False)
            self.assertIs(self.judge(chord, other, plus(ratio, (0, -1, 0)), numbers), False)
            self.assertIs(self.judge(chord, other, plus(ratio, (1, 0, 0)), numbers), False)
            self.assertIs(self.judge(chord, {"c": "g", "g": "c"}[other], ratio, numbers), False)
        self.assertIs(judge_numbers(numbers=[("up", 1)], ratio=FIFTH, other="g", chord="c",
                                    book=two_ways()), True)

    def test_an_empty_list(self):
        for chord in "cg":
            self.assertIs(self.judge(chord, chord, UNISON, []), True)
            self.assertIs(self.judge(chord, chord, (2, 0, -1), []), False)
        self.assertIs(self.judge("c", "g", UNISON, []), False)
        self.assertIs(self.judge("c", "g", FIFTH, []), False)
        self.assertIs(judge_numbers(Book([("c", [])], []), "c", "c", UNISON, []), True)
        self.assertIs(judge_numbers(Book([("c", [])], []), "c", "c", FIFTH, []), False)

    def test_numbers_above_0_each_once(self):
        for numbers in [
            [("up", 1), ("two", 0)], [("up", 1), ("two", -1), ("back", -1)], [("up", 0)],
            [("down", -1)], [("up", 1), ("up", 1), ("down", 1)], [("up", 1), ("up", 1)],
            [("up", 1), ("up", 0)], [("up", 2), ("down", 1), ("down", 1)],
        ]:
            self.assertIs(self.judge("c", "g", FIFTH, numbers), False)
        self.assertIs(self.judge("c", "c", UNISON, [("up", 0)]), False)
        self.assertIs(self.judge("c", "c", UNISON, [("up", -1), ("down", -1)]), False)

    def test_other_names(self):
        for name in NO_NAMES[:-1] + ["c"]:
            self.assertIs(self.judge("c", "g", FIFTH, [("up", 1), (name, 1)]), False)
            self.assertIs(self.judge("c", "c", UNISON, [(name, 1)]), False)

    def test_changes_of_other_parts(self):
        book = apart()
        self.assertIs(judge_numbers(book, "a", "b", FIFTH, [("ab", 1)]), True)
        for name in ["yy", "ax", "by"]:
            self.assertIs(judge_numbers(book, "a", "b", FIFTH, [("ab", 1), (name, 1)]), False)
        self.assertIs(judge_numbers(book, "z", "z", UNISON, [("yy", 1)]), False)

    def test_they_hang_together_with_the_chord(self):
        tones = [UNISON, FIFTH]
        names = "abc"
        changes = [(one + other, one, 0, other, 0) for one, other in
                   [("a", "b"), ("b", "a"), ("b", "c"), ("c", "b"), ("c", "c")]]
        book = Book([(name, tones) for name in names], changes)
        self.assertIs(judge_numbers(book, "a", "b", UNISON, [("ab", 1)]), True)
        self.assertIs(judge_numbers(book, "a", "b", UNISON, [("ab", 1), ("cc", 1)]), False)
        self.assertIs(judge_numbers(book, "a", "a", UNISON, [("cc", 1)]), False)
        self.assertIs(judge_numbers(book, "a", "a", UNISON, [("bc", 1), ("cb", 1)]), False)
        self.assertIs(judge_numbers(book, "a", "b", UNISON,
                                    [("ab", 1), ("cc", 1), ("bc", 1), ("cb", 1)]), True)

    def test_drawn_beside_all_songs(self):
        source = random.Random(51)
        seen = [0, 0]
        for _ in range(60):
            book = draw_even(source)
            names = [change[0] for change in book.changes]
            chord = source.choice(book.chords)[0]
            able = {(tuple(song.count(name) for name in names), end, shift)
                    for song, end, shift in songs(book, chord, 4)}
            likely = sorted(able)
            for _ in range(20):
                counts, other, ratio = source.choice(likely)
                if source.random() < 0.5:
                    counts = tuple(count + source.choice([0, 0, 0, 1]) for count in counts)
                if sum(counts) > 4:
                    continue
                numbers = [(name, count) for name, count in zip(names, counts) if count]
                source.shuffle(numbers)
                right = (counts, other, ratio) in able
                seen[right] += 1
                self.assertIs(judge_numbers(book, chord, other, ratio, numbers), right)
        self.assertGreater(min(seen), 100)


class JudgeRestsTest(DriftsCase):
    def judge(self, chord, other, ratio, told):
        before = (told[0], told[1], list(told[2]))
        answer = judge_rests(two_ways(), chord, other, ratio, told)
        self.assertEqual(told, before)
        return answer

    def test_modulus_0(self):
        flat = [("c", 0), ("g", 1)]
        self.assertIs(self.judge("c", "c", (1, 0, 0), (0, (1, 0, 2), flat)), True)
        self.assertIs(self.judge("c", "c", (1, 0, 0), (0, (1, 0, 2), flat[::-1])), True)
        self.assertIs(self.judge("c", "g", FIFTH, (0, (1, 0, 2), flat)), False)
        self.assertIs(self.judge("c", "g", UNISON, (0, (1, 0, 2), flat)), True)
        # The ratio weighs 1 and the heights -1, from g to c.
        self.assertIs(self.judge("g", "c", (1, 0, 0), (0, (1, 0, 2), flat)), False)
        self.assertIs(self.judge("g", "c", (2, 0, 0), (0, (1, 0, 2), flat)), True)
        self.assertIs(self.judge("c", "c", (2, 0, -1), (0, (1, 0, 2), flat)), False)
        for by in (-1, 1):
            wrong = [("c", 0), ("g", 1 + by)]
            self.assertIs(self.judge("c", "c", (1, 0, 0), (0, (1, 0, 2), wrong)), False)
        self.assertIs(self.judge("c", "c", (1, 0, 0), (0, (1, 0, 1), flat)), False)

    def test_other_moduli(self):
        # Twos weigh 1, fives 0: the drifts weigh 2, the fifth -1.
        told = (2, (1, 0, 0), [("c", 0), ("g", 1)])
        self.assertIs(self.judge("c", "c", (1, 0, 0), told), True)
        self.assertIs(self.judge("c", "c", (-7, 3, 1), told), True)
        self.assertIs(self.judge("c", "c", (-8, 3, 1), told), False)
        self.assertIs(self.judge("c", "g", FIFTH, told), False)
        self.assertIs(self.judge("c", "g", UNISON, told), True)
        for modulus in (0, 3, 4, 5):
            self.assertIs(self.judge("c", "c", (1, 0, 0), (modulus,) + told[1:]), False)
        # Heights, and so weights, beside multiples.
        for by in (-6, -2, 4):
            moved = (2, (1 + by, by, 2 * by), [("c", 5), ("g", 6 + by)])
            self.assertIs(self.judge("c", "c", (1, 0, 0), moved), True)
        self.assertIs(self.judge("c", "c", (1, 0, 0), (2, (1, 0, 0), [("c", 5), ("g", 5)])), False)

    def test_the_modulus_is_at_least_0(self):
        for modulus in (-1, -2, -4):
            told = (modulus, (1, 0, 0), [("c", 0), ("g", 1)])
            self.assertIs(self.judge("c", "c", (1, 0, 0), told), False)

    def test_the_modulus_1(self):
        for ratio in [UNISON, FIFTH, (1, 0, 0)]:
            self.assertIs(self.judge("c", "g", ratio, (1, (3, 5, 7), [("c", 2), ("g", 9)])), False)

    def test_each_chord_once_and_nothing_else(self):
        heights = [("c", 0), ("g", 1)]
        for wrong in [[], heights[:1], heights[1:], heights * 2, heights + [("g", 1)],
                      heights + [("x", 0)], heights[:1] + [("x", 1)], heights[:1] * 2,
                      heights + [("", 0)]]:
            self.assertIs(self.judge("c", "c", (1, 0, 0), (2, (1, 0, 0), wrong)), False)
        book = apart()
        self.assertIs(judge_rests(book, "a", "a", (1, 0, 0), (0, (1, 1, 0), [("b", 0), ("a", 0)])), True)
        self.assertIs(judge_rests(book, "a", "a", (1, 0, 0),
                                  (0, (1, 1, 0), [("b", 0), ("a", 0), ("z", 0)])), False)
        self.assertIs(judge_rests(book, "z", "z", (1, 0, 0), (0, (1, 0, 0), [("z", 8)])), True)
        self.assertIs(judge_rests(book, "z", "z", (1, 0, 0), (2, (2, 0, 0), [("z", 8)])), False)
        self.assertIs(judge_rests(book, "z", "z", UNISON, (0, (1, 0, 0), [("z", 8)])), False)

    def test_by_name(self):
        told = (2, (1, 0, 0), [("c", 0), ("g", 1)])
        self.assertIs(judge_rests(told=told, ratio=UNISON, other="g", chord="c",
                                  book=two_ways()), True)


class ErrorsTest(DriftsCase):
    def check_all(self, error, value, book, chord, other, ratio=FIFTH):
        """Check that all that take two chords raise an error, whatever else is handed in."""
        for ask in (can_come, come_numbers, rests):
            self.check_error(error, value, ask, book, chord, other, ratio)
            self.check_error(error, value, ask, ratio=ratio, other=other, chord=chord, book=book)
        for numbers in ([], [("no", -1)], [("up", 1), ("up", 1)]):
            self.check_error(error, value, judge_numbers, book, chord, other, ratio, numbers)
        for told in (STILL, (-1, (0, 0, 0), [("x", 1)]), (2, (1, 0, 0), [("c", 0), ("g", 1)])):
            self.check_error(error, value, judge_rests, book, chord, other, ratio, told)

    def test_unknown_chord(self):
        for name in NO_NAMES:
            self.check_all(UnknownChord, name, two_ways(), name, "c")
            self.check_all(UnknownChord, name, two_ways(), "c", name)
            self.check_all(UnknownChord, name, Book([], []), name, "c")
            self.check_error(UnknownChord, name, lattice, two_ways(), name)
            self.check_error(UnknownChord, name, lattice, Book([], []), chord=name)
        # The chord comes ahead of the other one, and both ahead of uneven and unlike parts.
        self.check_all(UnknownChord, "p", two_ways(), "p", "q")
        self.check_all(UnknownChord, "q", apart(), "x", "q")
        self.check_all(UnknownChord, "q", apart(), "q", "x")

    def test_unlike_parts(self):
        for chord, other in [("a", "x"), ("x", "a"), ("y", "b"), ("z", "a"), ("x", "z"), ("b", "z")]:
            self.check_all(UnlikeParts, (chord, other), apart(), chord, other)
            self.check_all(UnlikeParts, (chord, other), apart(), chord, other, UNISON)

    def test_not_even(self):
        # The first change of the part that cannot be made good: yy can be.
        for chord, other in itertools.product("xy", repeat=2):
            self.check_all(NotEven, "xy", apart(), chord, other)
            self.check_all(NotEven, "xy", apart(), chord, other, UNISON)
        for chord in "xy":
            self.check_error(NotEven, "xy", lattice, apart(), chord)
        turned = Book(apart().chords, apart().changes[::-1])
        self.check_all(NotEven, "yx", turned, "x", "x")
        self.check_error(NotEven, "yx", lattice, turned, "y")
        wide = Book([("c", ONE)], [("stay", "c", 1, "c", 1), ("wide", "c", 1, "c", 0)])
        self.check_all(NotEven, "wide", wide, "c", "c")

    def test_changes_of_other_parts_do_not_count(self):
        self.assertEqual(lattice(apart(), "b"), [])
        wide = Book([("c", ONE), ("d", ONE)], [("wide", "c", 1, "c", 0), ("off", "c", 0, "d", 1)])
        self.check_error(NotEven, "wide", lattice, wide, "c")
        self.check(wide, "d", "d", UNISON, True)


class DrawnDriftsTest(DriftsCase):
    def books(self, source):
        """Chords of books in even parts with changes, of many kinds, as (book, chord)."""
        for turn in range(900):
            book = draw_even(source, 1 + turn % 4) if turn % 12 == 0 else draw(
                source, 1, chords=2 + turn % 2, changes=7)
            chord = source.choice(book.chords)[0]
            names = changes_in(book, chord)
            if names and all(even_numbers(book, name) for name in names):
                yield book, chord

    def test_lattice_beside_rounds(self):
        source = random.Random(52)
        many = [0, 0, 0, 0]
        for book, chord in self.books(source):
            rows = lattice(book, chord)
            self.check_rows(rows)
            many[len(rows)] += 1
            for drift in part_rounds(book, chord):
                self.assertTrue(is_multiple_of_rows(drift, rows))
            for other in part_of(book, chord):
                self.assertEqual(lattice(book, other), rows)
            for row in rows:
                check_comes(self, book, chord, chord, row, come_numbers(book, chord, chord, row))
                back = plus(UNISON, row, -1)
                check_comes(self, book, chord, chord, back, come_numbers(book, chord, chord, back))
        self.assertGreater(min(many), 3)

    def test_just_one_of_numbers_and_rests(self):
        source = random.Random(53)
        seen = [0, 0]
        for book, chord in self.books(source):
            names = changes_in(book, chord)
            small = Book(book.chords, [change for change in book.changes if change[0] in names])
            for _ in range(3):
                now, song = chord, []
                for _ in range(source.randint(0, 12)):
                    change = source.choice([way for way in small.changes if way[1] == now])
                    song.append(change[0])
                    now = change[3]
                self.check(book, chord, now, follow(book, chord, song)[1], True)
                other = source.choice(part_of(book, chord))
                ratio = tuple(source.randint(-2, 2) for _ in range(3))
                comes = can_come(book, chord, other, ratio)
                seen[comes] += 1
                self.check(book, chord, other, ratio, comes)
        self.assertGreater(min(seen), 30)


if __name__ == "__main__":
    unittest.main()
