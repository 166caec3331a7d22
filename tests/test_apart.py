"""Point [2], of all that is asked of pitches, drifts and heights: nothing handed in changes, all
that is told is new, by position as by name, and no answer hangs on what was asked ahead."""

import copy
import inspect
import random
import unittest

from heldtones import drifts, heights, pitches
from heldtones.books import Book
from heldtones.errors import ToneError
from tests.drawn import UNISON, draw, draw_even

NAMES = {
    pitches: ["pitches", "drifting", "keeps", "even_numbers", "weights", "judge_even",
              "judge_weights", "is_even", "song_of"],
    drifts: ["lattice", "can_come", "come_numbers", "judge_numbers", "rests", "judge_rests"],
    heights: ["highest", "lowest", "highest_song", "lowest_song", "rising", "sinking"],
}
PARAMETERS = {
    "pitches": "book", "drifting": "book", "keeps": "book told", "even_numbers": "book name",
    "weights": "book name", "judge_even": "book name numbers", "judge_weights": "book name told",
    "is_even": "book chord", "song_of": "book chord numbers", "lattice": "book chord",
    "can_come": "book chord other ratio", "come_numbers": "book chord other ratio",
    "judge_numbers": "book chord other ratio numbers", "rests": "book chord other ratio",
    "judge_rests": "book chord other ratio told",
}


def lists_in(told):
    """All lists in what is told, each as often as it stands there."""
    if type(told) not in (list, tuple):
        return []
    return [told] * (type(told) is list) + [part for inner in told for part in lists_in(inner)]


def answer(ask, values):
    try:
        return ask(*values)
    except ToneError as error:
        return [type(error), error.value]


class ApartTest(unittest.TestCase):
    def setUp(self):
        self.asks = {name: getattr(module, name) for module, names in NAMES.items() for name in names}

    def test_parameters(self):
        for name, ask in self.asks.items():
            told = " ".join(inspect.signature(ask).parameters)
            self.assertEqual(told, PARAMETERS.get(name, "book chord"), name)
            self.assertEqual({each.kind for each in inspect.signature(ask).parameters.values()},
                             {inspect.Parameter.POSITIONAL_OR_KEYWORD})

    def drawn_values(self, source, book):
        """What is handed in by the names of parameters, apart from the book."""
        chord = source.choice(book.chords)[0]
        names = [change[0] for change in book.changes] or ["none"]
        levels = [(name, source.randint(-1, 1)) for name, _ in book.chords]
        ratio = tuple(source.randint(-1, 1) for _ in range(3))
        return {
            "chord": chord, "other": source.choice(book.chords)[0], "ratio": ratio,
            "name": source.choice(names),
            "numbers": [(source.choice(names), source.randint(0, 2)) for _ in range(3)],
            "keeps": [(name, ratio) for name, _ in book.chords],
            "judge_weights": (ratio, levels), "judge_rests": (2, ratio, list(levels)),
        }

    def test_drawn(self):
        source = random.Random(61)
        for turn in range(60):
            book = draw_even(source) if turn % 2 else draw(source)
            same = Book(book.chords, book.changes)
            values = self.drawn_values(source, book)
            kept = copy.deepcopy(values)
            handed = {name: [values.get(word, values.get(name))
                             for word in PARAMETERS.get(name, "book chord").split()[1:]]
                      for name in self.asks}
            first = {name: answer(ask, [book] + handed[name]) for name, ask in self.asks.items()}
            told = copy.deepcopy(first)
            seen = []
            for result in first.values():
                seen += lists_in(result)
            seen += [part for value in values.values() for part in lists_in(value)]
            self.assertEqual(len({id(part) for part in seen}), len(seen))
            for part in [part for result in first.values() for part in lists_in(result)]:
                part.clear()
            for name, ask in reversed(self.asks.items()):
                self.assertEqual(answer(ask, [book] + handed[name]), told[name], name)
                # Of a book of which nothing was asked yet.
                fresh = Book(same.chords, same.changes)
                self.assertEqual(answer(ask, [fresh] + handed[name]), told[name], name)
            self.assertEqual(values, kept)
            self.assertEqual(book, same)

    def test_no_chords(self):
        book = Book([], [])
        self.assertEqual([pitches.pitches(book), pitches.drifting(book)], [[], None])
        self.assertIs(pitches.keeps(book, []), True)
        for name, ask in self.asks.items():
            if name not in ("pitches", "drifting", "keeps"):
                rest = {"ratio": UNISON, "numbers": [], "told": (0, UNISON, [])}
                told = answer(ask, [book] + [rest.get(word, "c") for word in
                                             PARAMETERS.get(name, "book chord").split()[1:]])
                self.assertEqual(told[1], "c", name)


if __name__ == "__main__":
    unittest.main()
