"""Pitches to which songs keep, songs that drift, and changes that can be made good."""

from math import gcd

from heldtones.books import chord_names, changes_of, ends_of, part_of, parts
from heldtones.cones import cone
from heldtones.errors import UnknownChange, UnknownChord, WrongNumbers
from heldtones.ratios import UNISON, times
from heldtones.tallies import come_back, listed, makes_song, tally, total_shift
from heldtones.weighings import by_name, weighed_changes


def pitches(book):
    """Return pitches of all chords to which the changes of all parts keep, None if there are none."""
    found = {}
    for part in parts(book):
        names = changes_of(book, part[0])
        found[part[0]] = UNISON
        # Each round comes at least one change further, until the whole part is there.
        for _ in part:
            found = _further(book, names, found)
    told = [(name, found[name]) for name in chord_names(book)]
    if keeps(book, told):
        return told
    return None


def drifting(book):
    """Return the first song that comes back with a drift, as (chord, song), None if there is none."""
    songs = [
        ([first, second], book.shift(name), [name])
        for name, (first, second) in ends_of(book).items()
    ]
    while songs != []:
        for trail, shift, song in songs:
            if trail[0] == trail[-1] and shift != UNISON:
                return (trail[0], song)
        songs = _longer(book, songs)
    return None


def keeps(book, told):
    """Return whether all chords have told pitches to which the changes of all parts keep."""
    table = by_name(told, chord_names(book))
    if table is None:
        return False
    ends = ends_of(book)
    for part in parts(book):
        for name in changes_of(book, part[0]):
            first, second = ends[name]
            if times(table[first], book.shift(name)) != table[second]:
                return False
    return True


def even_numbers(book, name):
    """Return numbers of songs that are even together and have a change, None if there are none."""
    names = _changes_beside(book, name)
    if names == []:
        return None
    multiples, scale, _ = _made_good(book, name)
    if multiples is None:
        return None
    counts = {other: number for other, number in zip(names, multiples)}
    counts[name] += scale
    common = _divisor(list(counts.values()))
    return listed(book, {other: number // common for other, number in counts.items()})


def weights(book, name):
    """Return (weights, heights) by which a change cannot be made good, None if it can."""
    if _changes_beside(book, name) == []:
        return ((0, 0, 0), [])
    told = _made_good(book, name)[2]
    if told is None:
        return None
    common = _divisor(told)
    told = [number // common for number in told]
    part = part_of(book, ends_of(book)[name][0])
    return ((told[0], told[1], told[2]), list(zip(part, told[3:])))


def judge_even(book, name, numbers):
    """Return whether numbers are those of songs that are even together and have a change."""
    names = _changes_beside(book, name)
    counts = tally(numbers)
    if counts is None or name not in counts:
        return False
    if any([other not in names or number < 1 for other, number in numbers]):
        return False
    return come_back(book, counts) and total_shift(book, counts) == UNISON


def judge_weights(book, name, told):
    """Return whether (weights, heights) show that a change cannot be made good."""
    names = _changes_beside(book, name)
    if names == []:
        return True
    numbers, levels = told
    heights = by_name(levels, part_of(book, ends_of(book)[name][0]))
    if heights is None:
        return False
    worths = weighed_changes(book, names, numbers, heights)
    return worths[name] > 0 and all([worth >= 0 for worth in worths.values()])


def is_even(book, chord):
    """Return whether each change in the part of a chord can be made good."""
    return all([even_numbers(book, name) is not None for name in changes_of(book, chord)])


def song_of(book, chord, numbers):
    """Return a song from a chord with just these numbers of times of its changes."""
    if chord not in chord_names(book):
        raise UnknownChord(chord)
    ends = ends_of(book)
    for name, _ in numbers:
        if name not in ends:
            raise UnknownChange(name)
    counts = tally(numbers)
    if counts is None or any([number < 0 for number in counts.values()]):
        raise WrongNumbers(list(numbers))
    if not any([makes_song(book, chord, other, counts) for other in chord_names(book)]):
        raise WrongNumbers(list(numbers))
    return _sung(ends, chord, counts)


def _further(book, names, found):
    """Return the pitches that are found, and those of chords to which changes lead from these."""
    told = dict(found)
    ends = ends_of(book)
    for name in names:
        first, second = ends[name]
        if first in told and second not in told:
            told[second] = times(told[first], book.shift(name))
    return told


def _longer(book, songs):
    """Return the songs that are one change longer, of those that come to no chord again.

    The last change of a song may come back to its first chord. No others are needed, as each song
    that comes back and drifts is made up of such songs, one of which drifts.
    """
    longer = []
    ends = ends_of(book)
    for trail, shift, song in songs:
        for name, (first, second) in ends.items():
            goes_on = first == trail[-1] and first != trail[0]
            if goes_on and second not in trail[1:]:
                longer.append((trail + [second], times(shift, book.shift(name)), song + [name]))
    return longer


def _changes_beside(book, name):
    """Return the changes that are in the part of a change, in order; none if it is in no part."""
    ends = ends_of(book)
    if name not in ends:
        raise UnknownChange(name)
    names = changes_of(book, ends[name][0])
    if name in names:
        return names
    return []


def _made_good(book, name):
    """Return how a change of a part is made good by all of them, or why not, as a cone tells it."""
    ends = ends_of(book)
    part = part_of(book, ends[name][0])
    rows = {other: _row(book, part, other) for other in changes_of(book, part[0])}
    return cone(list(rows.values()), [-number for number in rows[name]])


def _row(book, part, name):
    """Return the exponents of the shift of a change, and how often it leads to each chord."""
    first, second = ends_of(book)[name]
    leads = {chord: 0 for chord in part}
    leads[first] -= 1
    leads[second] += 1
    return list(book.shift(name)) + list(leads.values())


def _divisor(numbers):
    """Return the greatest common divisor of some integers, not all of them 0."""
    common = 0
    for number in numbers:
        common = gcd(common, number)
    return common


def _sung(ends, chord, counts):
    """Return a song with a tally that is one of a song from a chord."""
    left = dict(counts)
    trail = [(chord, None)]
    song = []
    # Where there is no way on, the song ends as far as it is not told yet; what is left of the
    # tally comes back to a chord ahead, and is put in there.
    while trail != []:
        now, name = trail[-1]
        onward = _onward(ends, left, now)
        if onward is None:
            trail.pop()
            song.append(name)
        else:
            left[onward] -= 1
            trail.append((ends[onward][1], onward))
    # From back to front; the last one is that of the first chord, to which no change led.
    return song[:-1][::-1]


def _onward(ends, left, chord):
    """Return the first change that is left and leads from a chord, None if there is none."""
    for name, number in left.items():
        if number > 0 and ends[name][0] == chord:
            return name
    return None
