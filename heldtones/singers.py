"""Singers, who sing the changes of a book one after the other."""

from heldtones.books import chord_names
from heldtones.errors import NothingToUndo, UnknownChange, UnknownChord, WrongSong
from heldtones.ratios import UNISON, over, times


class Singer:
    """A singer, who begins at a chord."""

    def __init__(self, book, chord):
        if chord not in chord_names(book):
            raise UnknownChord(chord)
        self._book = book
        self._song = []
        # Where the singer was: the chord and the pitch of the start, then those behind each change.
        self._trail = [(chord, UNISON)]

    def __call__(self, name):
        return self._go([name], _next_place)

    def __len__(self):
        return len(self._song)

    def __eq__(self, other):
        if not isinstance(other, Singer) or isinstance(other, SteadySinger):
            return False
        return self._book == other._book and self._trail[-1] == other._trail[-1]

    @property
    def chord(self):
        """The chord now."""
        return self._trail[-1][0]

    @property
    def pitch(self):
        """The shift of the song so far."""
        return self._trail[-1][1]

    @property
    def song(self):
        """The song so far, a new list."""
        return list(self._song)

    def able(self):
        """Return the names of the changes that lead from the chord now, in order."""
        now = self._trail[-1][0]
        return [name for name, step in self._book.steps.items() if step[0] == now]

    def drift(self):
        """Return the pitch now over that of the last time at this chord, None if it is the first."""
        now, pitch = self._trail[-1]
        for chord, before in self._trail[:-1][::-1]:
            if chord == now:
                return over(pitch, before)
        return None

    def undo(self):
        """Take back the last change."""
        if self._song == []:
            raise NothingToUndo(0)
        self._song.pop()
        self._trail.pop()

    def sing_all(self, song):
        """Sing all changes of a song, or, if one cannot be sung, none, and return the pitch."""
        return self._go(song, _next_place)

    def _go(self, song, next_place):
        """Sing a song, each change of which leads where a function tells, and return the pitch."""
        # Nothing is kept until all changes are led through, as each of them may raise an error.
        trail = list(self._trail)
        for name in song:
            trail.append(next_place(self._book, trail, name))
        self._trail = trail
        self._song = self._song + list(song)
        return trail[-1][1]


class SteadySinger(Singer):
    """A singer, who comes to each chord at one pitch only."""

    def __init__(self, book, chord):
        super().__init__(book, chord)

    def __call__(self, name):
        return self._go([name], _next_steady_place)

    def __eq__(self, other):
        if not isinstance(other, SteadySinger):
            return False
        return self._book == other._book and self._trail[-1] == other._trail[-1]

    def able(self):
        """Return the names of the changes that can be sung now without a drift, in order."""
        names = super().able()
        return [
            name for name in names
            if _keeps_to(self._trail, _next_place(self._book, self._trail, name))
        ]

    def sing_all(self, song):
        """Sing all changes of a song, or, if one cannot be sung, none, and return the pitch."""
        return self._go(song, _next_steady_place)


def _next_place(book, trail, name):
    """Return the chord and the pitch to which a change leads from the last ones of a trail."""
    steps = book.steps
    if name not in steps:
        raise UnknownChange(name)
    now, pitch = trail[-1]
    first, second, shift = steps[name]
    if first != now:
        raise WrongSong(name)
    return (second, times(pitch, shift))


def _next_steady_place(book, trail, name):
    """Return where a change leads from a trail, if it keeps to the pitches of this."""
    place = _next_place(book, trail, name)
    if not _keeps_to(trail, place):
        raise WrongSong(name)
    return place


def _keeps_to(trail, place):
    """Return whether a trail was at the chord of a place at no other pitch than there."""
    chord, pitch = place
    return all([before == pitch for other, before in trail if other == chord])
