"""Books of chords and changes, the songs in them, and their parts."""

from heldtones.errors import DoubleName, DoubleTone, InvalidName, InvalidTone
from heldtones.errors import UnknownChange, UnknownChord, WrongSong
from heldtones.ratios import UNISON, over, times

LETTERS = "abcdefghijklmnopqrstuvwxyz"
LONGEST_NAME = 8


class Book:
    """Chords, and changes that lead from chord to chord; it never changes."""

    def __init__(self, chords, changes):
        self._chords = _chord_table(chords)
        self._changes = _change_table(self._chords, changes)
        # Whatever is asked of a book begins with these.
        self._steps = _step_table(self._chords, self._changes)

    def __eq__(self, other):
        if not isinstance(other, Book):
            return False
        return self.chords == other.chords and self.changes == other.changes

    def __len__(self):
        return len(self._changes)

    def __getitem__(self, name):
        if name not in self._chords:
            raise UnknownChord(name)
        return list(self._chords[name])

    # Without it Python would iterate over a book by indexes, which it has not.
    def __iter__(self):
        raise TypeError("a book is not iterated over")

    @property
    def chords(self):
        """The chords, a new list of tuples (name, tones)."""
        return [(name, list(tones)) for name, tones in self._chords.items()]

    @property
    def changes(self):
        """The changes, a new list of tuples (name, chord, tone, chord, tone)."""
        return [(name, *ends) for name, ends in self._changes.items()]

    @property
    def steps(self):
        """The first chord, the second chord and the shift of each change by its name, a new dict."""
        return dict(self._steps)

    def shift(self, name):
        """Return the pitch of the second chord of a change over that of the first one."""
        if name not in self._steps:
            raise UnknownChange(name)
        return self._steps[name][2]

    def without(self, name):
        """Return the book without a change."""
        if name not in self._changes:
            raise UnknownChange(name)
        return Book(self.chords, [change for change in self.changes if change[0] != name])

    def backward(self):
        """Return the book whose changes lead from their second chord to their first one."""
        turned = [
            (name, second, same, first, held)
            for name, first, held, second, same in self.changes
        ]
        return Book(self.chords, turned)


def follow(book, chord, song):
    """Return the chord to which a song from a chord leads, and the shift of the song."""
    if chord not in chord_names(book):
        raise UnknownChord(chord)
    steps = book.steps
    for name in song:
        if name not in steps:
            raise UnknownChange(name)
    now = chord
    shift = UNISON
    for index, name in enumerate(song):
        first, second, own = steps[name]
        if first != now:
            raise WrongSong(index)
        now = second
        shift = times(shift, own)
    return (now, shift)


def parts(book):
    """Return the list of the parts, each the list of its chords in order."""
    told = []
    for name in chord_names(book):
        if not any([name in part for part in told]):
            told.append(part_of(book, name))
    return told


def part_of(book, chord):
    """Return the list of the chords that are in one part with a chord, in order."""
    names = chord_names(book)
    if chord not in names:
        raise UnknownChord(chord)
    ways = [(first, second) for first, second, _ in book.steps.values()]
    onward = led_to(ways, chord)
    backward = led_to([(second, first) for first, second in ways], chord)
    return [name for name in names if name in onward and name in backward]


def steps_within(book, part):
    """Return the steps of the changes that are in a part, the list of its chords, in order."""
    return {
        name: step for name, step in book.steps.items() if step[0] in part and step[1] in part
    }


def changes_of(book, chord):
    """Return the names of the changes that are in the part of a chord, in order."""
    return list(steps_within(book, part_of(book, chord)))


def chord_names(book):
    """Return the names of the chords, in order."""
    return list(book._chords)


def led_to(ways, chord):
    """Return the chords to which rows of ways, tuples of two chords, lead from a chord."""
    found = [chord]
    done = 0
    while done < len(found):
        for first, second in ways:
            if first == found[done] and second not in found:
                found.append(second)
        done += 1
    return found


def _chord_table(chords):
    """Return the tones of each chord by its name, or raise what is wrong with them."""
    table = {}
    for name, tones in chords:
        _check_name(name, table)
        for index, tone in enumerate(tones):
            if tone in tones[:index]:
                raise DoubleTone((name, index))
        table[name] = list(tones)
    return table


def _change_table(chords, changes):
    """Return the ends of each change by its name, or raise what is wrong with them."""
    table = {}
    for name, first, held, second, same in changes:
        _check_name(name, table)
        for chord in (first, second):
            if chord not in chords:
                raise UnknownChord(chord)
        for chord, index in ((first, held), (second, same)):
            if not 0 <= index < len(chords[chord]):
                raise InvalidTone((chord, index))
        table[name] = (first, held, second, same)
    return table


def _step_table(chords, changes):
    """Return the two chords and the shift of each change by its name."""
    return {
        name: (first, second, over(chords[first][held], chords[second][same]))
        for name, (first, held, second, same) in changes.items()
    }


def _check_name(name, ahead):
    """Raise an error if a name is none, or if it is among those ahead of it."""
    if not 1 <= len(name) <= LONGEST_NAME or not all([sign in LETTERS for sign in name]):
        raise InvalidName(name)
    if name in ahead:
        raise DoubleName(name)
