"""Changes that can be made good [5], [6], [8]: numbers, weights, their judges, and is_even."""

import random
import unittest

from heldtones.books import Book
from heldtones.errors import UnknownChange, UnknownChord
from heldtones.pitches import even_numbers, is_even, judge_even, judge_weights, weights
from tests.cases import ErrorCase
from tests.drawn import (
    UNISON, changes_in, check_even, check_weights, draw, draw_even, first_chord, is_in_part,
    part_of, shift_of, surpluses,
)

ONE = [UNISON, (-1, 1, 0), (-2, 0, 1)]
NO_NAMES = ["", "C", "nochangeis", "~", "no such", "c"]


def rising_and_falling():
    """One chord with changes whose drifts are 3, -2, 0 times a fifth, and a third."""
    tones = [UNISON, (-3, 3, 0), (-2, 2, 0), (-2, 0, 1)]
    return Book([("c", tones)], [("rise", "c", 1, "c", 0), ("fall", "c", 0, "c", 2),
                                 ("stay", "c", 3, "c", 3), ("third", "c", 3, "c", 0)])


def two_rounds():
    """Two chords between which there are a change that must drift, and others that need not."""
    return Book([("c", ONE), ("g", ONE)],
                [("up", "c", 1, "g", 0), ("down", "g", 0, "c", 1), ("high", "c", 2, "g", 0),
                 ("stay", "c", 0, "c", 0)])


def one_way():
    return Book([("c", ONE), ("g", ONE), ("d", ONE)],
                [("up", "c", 1, "g", 0), ("on", "g", 0, "d", 0), ("back", "d", 0, "g", 0)])


class EvenNumbersTest(ErrorCase):
    def test_a_change_alone(self):
        check_even(self, rising_and_falling(), "stay", even_numbers(rising_and_falling(), "stay"))
        alone = Book([("c", ONE)], [("stay", "c", 2, "c", 2)])
        check_even(self, alone, "stay", even_numbers(alone, "stay"))

    def test_several_songs_together(self):
        book = rising_and_falling()
        for name in ("rise", "fall"):
            numbers = even_numbers(book, name)
            check_even(self, book, name, numbers)
            self.assertEqual(dict(numbers)["rise"] * 3, dict(numbers)["fall"] * 2)
        self.assertIsNone(even_numbers(book, "third"))

    def test_songs_that_do_not_meet(self):
        # What rises at one chord is made good at another one, which comes to no change of it.
        tones = [UNISON, (-1, 1, 0)]
        changes = [("rise", "a", 1, "a", 0), ("fall", "b", 0, "b", 1), ("ab", "a", 0, "b", 0),
                   ("ba", "b", 0, "a", 0)]
        book = Book([("a", tones), ("b", tones)], changes)
        for name in ("rise", "fall", "ab", "ba"):
            check_even(self, book, name, even_numbers(book, name))
        self.assertIs(judge_even(book, "rise", [("rise", 1), ("fall", 1)]), True)
        # In two parts it is not.
        for name in ("ab", "ba"):
            self.assertIsNone(even_numbers(book.without(name), "rise"))
            self.assertIsNone(even_numbers(book.without(name), "fall"))

    def test_there_and_back(self):
        book = two_rounds()
        for name in ("up", "down", "stay"):
            check_even(self, book, name, even_numbers(book, name))
        self.assertIsNone(even_numbers(book, "high"))

    def test_in_no_part(self):
        self.assertIsNone(even_numbers(one_way(), "up"))
        check_even(self, one_way(), "on", even_numbers(one_way(), "on"))

    def test_large_numbers(self):
        tones = [(4, -4, 3), (-3, 4, -4), UNISON, (4, 3, 4), (-4, -4, 1)]
        pairs = [(0, 2), (1, 2), (3, 2), (4, 2)]
        book = Book([("c", tones)], [("abcd"[k], "c", one, "c", other)
                                     for k, (one, other) in enumerate(pairs)])
        told = {name: even_numbers(book, name) for name in "abcd"}
        self.assertTrue(any(told.values()))
        for name in "abcd":
            if told[name] is None:
                check_weights(self, book, name, weights(book, name))
            else:
                check_even(self, book, name, told[name])

    def test_in_the_order_of_the_changes(self):
        book = two_rounds()
        turned = Book(book.chords, book.changes[::-1])
        check_even(self, turned, "up", even_numbers(turned, "up"))
        self.assertEqual([name for name, _ in even_numbers(turned.without("stay"), "up")],
                         ["down", "up"])

    def test_by_name_and_again(self):
        book = two_rounds()
        told = even_numbers(name="up", book=book)
        same = list(told)
        told.clear()
        weights(book, "high")
        self.assertEqual(even_numbers(book, "up"), same)
        self.assertEqual(book, two_rounds())

    def test_unknown_change(self):
        for book in [Book([], []), two_rounds()]:
            for name in NO_NAMES:
                self.check_error(UnknownChange, name, even_numbers, book, name)


class WeightsTest(ErrorCase):
    def test_where_there_are_some(self):
        check_weights(self, rising_and_falling(), "third", weights(rising_and_falling(), "third"))
        check_weights(self, two_rounds(), "high", weights(two_rounds(), "high"))
        for part in ("ab", "ba"):
            tones = [UNISON, (-1, 1, 0)]
            changes = [("rise", "a", 1, "a", 0), ("fall", "b", 0, "b", 1),
                       (part, part[0], 0, part[1], 0)]
            book = Book([("a", tones), ("b", tones)], changes)
            for name in ("rise", "fall", part):
                check_weights(self, book, name, weights(book, name))

    def test_none_where_it_can_be_made_good(self):
        for name in ("rise", "fall", "stay"):
            self.assertIsNone(weights(rising_and_falling(), name))
        for name in ("up", "down", "stay"):
            self.assertIsNone(weights(two_rounds(), name))

    def test_in_no_part(self):
        self.assertEqual(weights(one_way(), "up"), ((0, 0, 0), []))
        self.assertIsNone(weights(one_way(), "on"))

    def test_by_name_and_again(self):
        book = two_rounds()
        told = weights(name="high", book=book)
        same = (told[0], list(told[1]))
        told[1].clear()
        even_numbers(book, "up")
        self.assertEqual(weights(book, "high"), same)
        none = weights(one_way(), "up")[1]
        none.append(1)
        self.assertEqual(weights(one_way(), "up"), ((0, 0, 0), []))
        self.assertEqual(book, two_rounds())

    def test_unknown_change(self):
        for book in [Book([], []), two_rounds()]:
            for name in NO_NAMES:
                self.check_error(UnknownChange, name, weights, book, name)


class JudgeEvenTest(ErrorCase):
    def test_ordinary(self):
        book = rising_and_falling()
        for numbers in [[("rise", 2), ("fall", 3)], [("fall", 6), ("rise", 4)],
                        [("stay", 5), ("fall", 30), ("rise", 20)]]:
            self.assertIs(judge_even(book, "rise", numbers), True)
            self.assertIs(judge_even(book, "fall", numbers), True)
            self.assertIs(judge_even(book, "third", numbers), False)
        self.assertIs(judge_even(book, "stay", [("stay", 1)]), True)
        self.assertIs(judge_even(numbers=[("stay", 100)], name="stay", book=book), True)

    def test_a_drift(self):
        book = rising_and_falling()
        for numbers in [[("rise", 1)], [("rise", 2), ("fall", 2)], [("rise", 3), ("fall", 2)],
                        [("rise", 2), ("fall", 3), ("third", 1)]]:
            self.assertIs(judge_even(book, "rise", numbers), False)
        # Each of the three exponents counts, without the others.
        for tone in [(1, 0, 0), (0, 1, 0), (0, 0, 1)]:
            wide = Book([("c", [UNISON, tone])], [("up", "c", 1, "c", 0)])
            self.assertIs(judge_even(wide, "up", [("up", 1)]), False)

    def test_the_change_is_among_them(self):
        book = rising_and_falling()
        self.assertIs(judge_even(book, "rise", [("stay", 1)]), False)
        self.assertIs(judge_even(book, "rise", []), False)
        self.assertIs(judge_even(book, "stay", [("rise", 2), ("fall", 3)]), False)

    def test_numbers_above_0_each_once(self):
        book = rising_and_falling()
        for numbers in [[("stay", 0)], [("stay", -1)], [("stay", 1), ("rise", 0)],
                        [("stay", 1), ("rise", -2), ("fall", -3)], [("stay", 1), ("stay", 1)],
                        [("stay", 1), ("rise", 0), ("fall", 0)]]:
            self.assertIs(judge_even(book, "stay", numbers), False, numbers)
        twice = [("rise", 1), ("fall", 3), ("rise", 1)]
        self.assertIs(judge_even(book, "rise", twice), False)
        self.assertEqual(twice, [("rise", 1), ("fall", 3), ("rise", 1)])
        # Numbers below 0 would balance, and each twice would, too.
        for numbers in [[("rise", -2), ("fall", -3)], [("rise", 2), ("fall", 3)] * 2]:
            self.assertIs(judge_even(book, "rise", numbers), False)

    def test_they_come_back(self):
        book = two_rounds()
        for numbers in [[("up", 1)], [("up", 2), ("down", 1)], [("up", 1), ("stay", 1)]]:
            self.assertIs(judge_even(book, "up", numbers), False)
        still = Book([("c", ONE), ("g", ONE)], [("to", "c", 0, "g", 0), ("fro", "g", 0, "c", 0)])
        self.assertIs(judge_even(still, "to", [("to", 1)]), False)
        self.assertIs(judge_even(still, "to", [("to", 1), ("fro", 2)]), False)
        self.assertIs(judge_even(still, "to", [("to", 3), ("fro", 3)]), True)

    def test_other_names(self):
        book = rising_and_falling()
        for name in NO_NAMES:
            self.assertIs(judge_even(book, "stay", [("stay", 1), (name, 1)]), False)
            self.assertIs(judge_even(book, "stay", [(name, 1)]), False)

    def test_changes_of_other_parts(self):
        book = Book([("a", ONE), ("b", ONE)], [("x", "a", 0, "a", 0), ("y", "b", 0, "b", 0)])
        self.assertIs(judge_even(book, "x", [("x", 1), ("y", 1)]), False)
        self.assertIs(judge_even(book, "x", [("x", 1)]), True)

    def test_in_no_part(self):
        self.assertIs(judge_even(one_way(), "up", [("up", 1)]), False)
        self.assertIs(judge_even(one_way(), "up", [("up", 1), ("on", 1), ("back", 1)]), False)
        self.assertIs(judge_even(one_way(), "on", [("on", 1), ("back", 1)]), True)

    def test_unknown_change(self):
        for name in NO_NAMES:
            self.check_error(UnknownChange, name, judge_even, two_rounds(), name, [(name, 0)])
            self.check_error(UnknownChange, name, judge_even, Book([], []), name, [])


class JudgeWeightsTest(ErrorCase):
    def test_ordinary(self):
        book = rising_and_falling()
        for told in [((0, 0, 1), [("c", 0)]), ((1, 1, 3), [("c", -9)]), ((-2, -2, 0), [("c", 4)])]:
            worth = sum(a * b for a, b in zip(told[0], book.shift("third")))
            self.assertIs(judge_weights(book, "third", told), worth >= 1)
        self.assertIs(judge_weights(told=((0, 0, 1), [("c", 0)]), name="third", book=book), True)
        for name in ("rise", "fall", "stay"):
            self.assertIs(judge_weights(book, name, ((0, 0, 1), [("c", 0)])), False)

    def test_no_change_weighs_less_than_0(self):
        book = rising_and_falling()
        for told in [(0, 1, 1), (0, -1, 1), (0, -3, 9), (1, 0, 3)]:
            self.assertIs(judge_weights(book, "third", (told, [("c", 0)])), False)

    def test_heights(self):
        book = two_rounds()
        # The fifth weighs 0 by the heights; the third weighs 2 by its own exponents and heights.
        told = ((0, 0, 1), [("g", 0), ("c", 0)])
        self.assertIs(judge_weights(book, "high", told), True)
        self.assertIs(judge_weights(book, "high", (told[0], told[1][::-1])), True)
        self.assertIs(judge_weights(book, "up", told), False)
        for levels in [(0, 1), (1, 0), (-1, 0)]:
            moved = (told[0], list(zip("cg", levels)))
            self.assertIs(judge_weights(book, "high", moved), False)
        for by in (-1, 1, 5):
            moved = ((0, by, 1), [("c", by), ("g", 0)])
            self.assertIs(judge_weights(book, "high", moved), 1 - by >= 1)
        for by in (-5, -1, 0):
            moved = ((0, by, 1), [("c", by + 7), ("g", 7)])
            self.assertIs(judge_weights(book, "high", moved), True)

    def test_each_chord_once_and_nothing_else(self):
        book = two_rounds()
        heights = [("c", 0), ("g", 0)]
        for wrong in [[], heights[:1], heights[1:], heights + heights, heights + [("c", 0)],
                      heights + [("x", 0)], heights[:1] + [("x", 0)], heights[:1] * 2,
                      heights[:1] + [("", 0)]]:
            self.assertIs(judge_weights(book, "high", ((0, 0, 1), wrong)), False)
            self.assertEqual(len(heights), 2)
        # Chords of other parts are something else.
        more = Book(book.chords + [("d", ONE)], book.changes + [("off", "g", 0, "d", 0)])
        self.assertIs(judge_weights(more, "high", ((0, 0, 1), heights)), True)
        self.assertIs(judge_weights(more, "high", ((0, 0, 1), heights + [("d", 0)])), False)

    def test_changes_of_other_parts_do_not_count(self):
        tones = [UNISON, (1, 0, 0)]
        book = Book([("a", tones), ("b", tones)],
                    [("x", "a", 1, "a", 0), ("y", "b", 0, "b", 1), ("z", "a", 0, "b", 1)])
        self.assertIs(judge_weights(book, "x", ((1, 0, 0), [("a", 0)])), True)
        self.assertIs(judge_weights(book, "y", ((1, 0, 0), [("b", 0)])), False)
        self.assertIs(judge_weights(book, "y", ((-1, 0, 0), [("b", 0)])), True)

    def test_in_no_part_anything_is_let_by(self):
        for told in [((0, 0, 0), []), ((-9, 0, 5), [("x", 1), ("x", 1)]), ((0, 0, 0), [("c", 1)])]:
            self.assertIs(judge_weights(one_way(), "up", told), True)
        self.assertIs(judge_weights(one_way(), "on", ((0, 0, 0), [])), False)

    def test_what_is_handed_in_stays(self):
        told = ((0, 0, 1), [("g", 0), ("c", 0)])
        judge_weights(two_rounds(), "high", told)
        self.assertEqual(told, ((0, 0, 1), [("g", 0), ("c", 0)]))

    def test_unknown_change(self):
        for name in NO_NAMES:
            self.check_error(UnknownChange, name, judge_weights, two_rounds(), name,
                             ((0, 0, 0), []))
            self.check_error(UnknownChange, name, judge_weights, Book([], []), name, ((0, 0, 1), []))


class IsEvenTest(ErrorCase):
    def test_ordinary(self):
        self.assertIs(is_even(two_rounds(), "c"), False)
        for chord in "cg":
            self.assertIs(is_even(two_rounds().without("high"), chord), True)
            self.assertIs(is_even(two_rounds(), chord), False)
        self.assertIs(is_even(rising_and_falling(), "c"), False)
        self.assertIs(is_even(rising_and_falling().without("third"), "c"), True)
        self.assertIs(is_even(rising_and_falling().without("third").without("fall"), "c"), False)

    def test_one_chord(self):
        self.assertIs(is_even(Book([("c", [])], []), "c"), True)
        self.assertIs(is_even(Book([("c", ONE)], [("stay", "c", 1, "c", 1)]), "c"), True)
        self.assertIs(is_even(Book([("c", ONE)], [("up", "c", 1, "c", 0)]), "c"), False)

    def test_only_its_own_part_counts(self):
        book = Book([("a", ONE), ("b", ONE)], [("x", "a", 0, "a", 1), ("on", "a", 0, "b", 0)])
        self.assertEqual([is_even(book, "a"), is_even(book, "b")], [False, True])

    def test_by_name(self):
        self.assertIs(is_even(chord="c", book=two_rounds()), False)

    def test_unknown_chord(self):
        for name in NO_NAMES[:-1] + ["up"]:
            self.check_error(UnknownChord, name, is_even, two_rounds(), name)
            self.check_error(UnknownChord, name, is_even, Book([], []), name)


class DrawnEvenTest(ErrorCase):
    def test_just_one_of_numbers_and_weights(self):
        source = random.Random(21)
        seen = [0, 0, 0]
        for turn in range(300):
            book = draw_even(source, 1 + turn % 4) if turn % 5 == 0 else draw(source, 1 + turn % 4)
            made = {}
            for name in [change[0] for change in book.changes]:
                numbers, told = even_numbers(book, name), weights(book, name)
                made[name] = numbers is not None
                self.assertNotEqual(numbers is None, told is None)
                if numbers is None:
                    check_weights(self, book, name, told)
                    self.assertIs(judge_weights(book, name, told), True)
                else:
                    check_even(self, book, name, numbers)
                    self.assertIs(judge_even(book, name, numbers), True)
                seen[made[name] if is_in_part(book, name) else 2] += 1
            for chord, _ in book.chords:
                names = [change[0] for change in book.changes
                         if is_in_part(book, change[0]) and change[1] in part_of(book, chord)]
                self.assertIs(is_even(book, chord), all(made[name] for name in names))
        self.assertGreater(min(seen), 100)

    def test_judge_even_beside_the_words(self):
        source = random.Random(22)
        seen = [0, 0]
        for _ in range(1500):
            book = draw(source, 1, chords=2, changes=4)
            if len(book) == 0:
                continue
            names = [change[0] for change in book.changes]
            numbers = [(source.choice(names), source.randint(1, 2))
                       for _ in range(source.randint(1, 4))]
            name = source.choice(numbers)[0]
            right = (
                len(dict(numbers)) == len(numbers) and shift_of(book, numbers) == UNISON
                and not any(surpluses(book, numbers).values())
                and set(dict(numbers)) <= set(changes_in(book, first_chord(book, name)))
            )
            seen[right] += 1
            self.assertIs(judge_even(book, name, numbers), right)
        self.assertGreater(min(seen), 40)


if __name__ == "__main__":
    unittest.main()
