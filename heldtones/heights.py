"""How high and how low songs go."""

from heldtones.books import chord_names, ends_of, follow
from heldtones.errors import UnknownChord
from heldtones.ratios import UNISON, is_greater, times


def highest(book, chord):
    """Return the greatest shift of all songs from a chord, None if there is none."""
    return _shift_of(book, chord, highest_song(book, chord))


def lowest(book, chord):
    """Return the least shift of all songs from a chord, None if there is none."""
    return _shift_of(book, chord, lowest_song(book, chord))


def highest_song(book, chord):
    """Return a song from a chord with the greatest shift, None if there is none."""
    return _farthest_song(book, chord, True)


def lowest_song(book, chord):
    """Return a song from a chord with the least shift, None if there is none."""
    return _farthest_song(book, chord, False)


def rising(book, chord):
    """Return a song to where one begins that comes back higher, and this one, or None."""
    return _going_round(book, chord, True)


def sinking(book, chord):
    """Return a song to where one begins that comes back lower, and this one, or None."""
    return _going_round(book, chord, False)


def _shift_of(book, chord, song):
    """Return the shift of a song from a chord, None if there is no song."""
    if song is None:
        return None
    return follow(book, chord, song)[1]


def _farthest_song(book, chord, upward):
    """Return a song from a chord that goes as far up, or down, as any; None if there is none."""
    if _going_round(book, chord, upward) is not None:
        return None
    shift, song = (UNISON, [])
    for farther, other in _best_songs(book, chord, upward).values():
        if _is_better(farther, shift, upward):
            shift, song = farther, other
    return song


def _going_round(book, chord, upward):
    """Return songs, one to and one for ever round, that go up, or down; None if there are none."""
    best = _best_songs(book, chord, upward)
    longer = _grown(book, best, upward)
    for name in best:
        # With more changes than there are chords but one, it comes to a chord twice. What is
        # between goes up, or down, as otherwise the song would be no better without it.
        if longer[name] != best[name]:
            return _cut(book, chord, longer[name][1])
    return None


def _best_songs(book, chord, upward):
    """Return, for each chord to which songs lead from a chord, the shift of the best, and it.

    Told are songs with fewer changes than there are chords.
    """
    names = chord_names(book)
    if chord not in names:
        raise UnknownChord(chord)
    best = {chord: (UNISON, [])}
    for _ in names[1:]:
        best = _grown(book, best, upward)
    return best


def _grown(book, best, upward):
    """Return the best songs, if those that are told may be longer by a change."""
    grown = dict(best)
    for name, (first, second) in ends_of(book).items():
        if first in best:
            shift, song = best[first]
            farther = times(shift, book.shift(name))
            if second not in grown or _is_better(farther, grown[second][0], upward):
                grown[second] = (farther, song + [name])
    return grown


def _is_better(one, other, upward):
    """Return whether a ratio is farther up, or down, than another one."""
    if upward:
        return is_greater(one, other)
    return is_greater(other, one)


def _cut(book, chord, song):
    """Return the lead of a song that comes to a chord twice, and what is between both times."""
    ends = ends_of(book)
    trail = [chord]
    for name in song:
        now = ends[name][1]
        if now in trail:
            start = trail.index(now)
            return (song[:start], song[start:len(trail)])
        trail.append(now)
    return None
