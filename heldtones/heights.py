"""How high and how low songs go."""

from heldtones.books import chord_names
from heldtones.errors import UnknownChord
from heldtones.ratios import UNISON, is_greater, times


def highest(book, chord):
    """Return the greatest shift of all songs from a chord, None if there is none."""
    return _farthest(book, chord, True)[0]


def lowest(book, chord):
    """Return the least shift of all songs from a chord, None if there is none."""
    return _farthest(book, chord, False)[0]


def highest_song(book, chord):
    """Return a song from a chord with the greatest shift, None if there is none."""
    return _farthest(book, chord, True)[1]


def lowest_song(book, chord):
    """Return a song from a chord with the least shift, None if there is none."""
    return _farthest(book, chord, False)[1]


def rising(book, chord):
    """Return a song to where one begins that comes back higher, and this one, or None."""
    return _going_round(book, chord, True)


def sinking(book, chord):
    """Return a song to where one begins that comes back lower, and this one, or None."""
    return _going_round(book, chord, False)


def _farthest(book, chord, upward):
    """Return how far up, or down, songs from a chord go, and one that does; None twice if none is."""
    best, longer = _best_songs(book, chord, upward)
    if longer != best:
        return (None, None)
    farthest = (UNISON, [])
    for shift, song in best.values():
        if _is_better(shift, farthest[0], upward):
            farthest = (shift, song)
    return farthest


def _going_round(book, chord, upward):
    """Return songs, one to and one for ever round, that go up, or down; None if there are none."""
    best, longer = _best_songs(book, chord, upward)
    for name in best:
        # With more changes than there are chords but one, it comes to a chord twice. What is
        # between goes up, or down, as otherwise the song would be no better without it.
        if longer[name] != best[name]:
            return _cut(book, chord, longer[name][1])
    return None


def _best_songs(book, chord, upward):
    """Return, for each chord to which songs lead from a chord, the shift of the best, and it.

    Told are songs with fewer changes than there are chords, then those that may have one more.
    """
    names = chord_names(book)
    if chord not in names:
        raise UnknownChord(chord)
    steps = book.steps
    best = {chord: (UNISON, [])}
    longer = _grown(steps, best, upward)
    for _ in names[1:]:
        # Where no song is better by a change more, none is by several.
        if longer == best:
            break
        best = longer
        longer = _grown(steps, best, upward)
    return (best, longer)


def _grown(steps, best, upward):
    """Return the best songs, if those that are told may be longer by a change."""
    grown = dict(best)
    for name, (first, second, own) in steps.items():
        if first in best:
            shift, song = best[first]
            farther = times(shift, own)
            if second not in grown or _is_better(farther, grown[second][0], upward):
                grown[second] = (farther, song + [name])
    return grown


def _is_better(one, other, upward):
    """Return whether a ratio is farther up, or down, than another one."""
    if upward:
        return is_greater(one, other)
    return is_greater(other, one)


def _cut(book, chord, song):
    """Return the lead of a song that comes to a chord twice, and what is between both times."""
    steps = book.steps
    trail = [chord]
    for name in song:
        now = steps[name][1]
        if now in trail:
            start = trail.index(now)
            return (song[:start], song[start:len(trail)])
        trail.append(now)
    return None
