"""Pitches to which songs keep, songs that drift, and changes that can be made good."""

from heldtones.books import chord_names, part_of, parts, steps_within
from heldtones.errors import UnknownChange, UnknownChord, WrongNumbers
from heldtones.evenness import balances, even_counts, hindrance, uneven_weights
from heldtones.ratios import UNISON, times
from heldtones.tallies import come_back, listed, makes_song, tally, total_shift
from heldtones.ways import ways_from
from heldtones.weighings import by_name, weighed_steps


def pitches(book):
    """Return pitches of all chords to which the changes of all parts keep, None if there are none."""
    found = {}
    for part in parts(book):
        steps = steps_within(book, part)
        for name, row in ways_from(steps, part[0], len(UNISON)).items():
            found[name] = (row[0], row[1], row[2])
        if not _keep_to(steps, found):
            return None
    return [(name, found[name]) for name in chord_names(book)]


def drifting(book):
    """Return the first song that comes back with a drift, as (chord, song), None if there is none."""
    songs = [
        ([first, second], shift, [name]) for name, (first, second, shift) in book.steps.items()
    ]
    while songs != []:
        for trail, shift, song in songs:
            if trail[0] == trail[-1] and shift != UNISON:
                return (trail[0], song)
        songs = _longer(book, songs)
    return None


def keeps(book, told):
    """Return whether all chords have told pitches to which the changes of all parts keep."""
    table = by_name(told, chord_names(book))
    if table is None:
        return False
    return all([_keep_to(steps_within(book, part), table) for part in parts(book)])


def even_numbers(book, name):
    """Return numbers of songs that are even together and have a change, None if there are none."""
    part, steps = _part_beside(book, name)
    if part == []:
        return None
    counts = even_counts(balances(part, steps), name)
    if counts is None:
        return None
    return listed(book, counts)


def weights(book, name):
    """Return (weights, heights) by which a change cannot be made good, None if it can."""
    part, steps = _part_beside(book, name)
    if part == []:
        return ((0, 0, 0), [])
    told = uneven_weights(balances(part, steps), name)
    if told is None:
        return None
    return ((told[0], told[1], told[2]), list(zip(part, told[3:])))


def judge_even(book, name, numbers):
    """Return whether numbers are those of songs that are even together and have a change."""
    steps = _part_beside(book, name)[1]
    counts = tally(numbers)
    if counts is None or name not in counts:
        return False
    if any([other not in steps or number < 1 for other, number in numbers]):
        return False
    return come_back(book, counts) and total_shift(book, counts) == UNISON


def judge_weights(book, name, told):
    """Return whether (weights, heights) show that a change cannot be made good."""
    part, steps = _part_beside(book, name)
    if part == []:
        return True
    numbers, levels = told
    heights = by_name(levels, part)
    if heights is None:
        return False
    worths = weighed_steps(steps, numbers, heights)
    return worths[name] > 0 and all([worth >= 0 for worth in worths.values()])


def is_even(book, chord):
    """Return whether each change in the part of a chord can be made good."""
    part = part_of(book, chord)
    return hindrance(balances(part, steps_within(book, part))) is None


def song_of(book, chord, numbers):
    """Return a song from a chord with just these numbers of times of its changes."""
    if chord not in chord_names(book):
        raise UnknownChord(chord)
    steps = book.steps
    for name, _ in numbers:
        if name not in steps:
            raise UnknownChange(name)
    counts = tally(numbers)
    if counts is None or any([number < 0 for number in counts.values()]):
        raise WrongNumbers(list(numbers))
    if not any([makes_song(book, chord, other, counts) for other in chord_names(book)]):
        raise WrongNumbers(list(numbers))
    return _sung(steps, chord, counts)


def _keep_to(steps, found):
    """Return whether all of some steps lead from the found pitch of a chord to that of a chord."""
    return all([times(found[first], shift) == found[second] for first, second, shift in steps.values()])


def _longer(book, songs):
    """Return the songs that are one change longer, of those that come to no chord again.

    The last change of a song may come back to its first chord. No others are needed, as each song
    that comes back and drifts is made up of such songs, one of which drifts.
    """
    longer = []
    steps = book.steps
    for trail, shift, song in songs:
        for name, (first, second, own) in steps.items():
            goes_on = first == trail[-1] and first != trail[0]
            if goes_on and second not in trail[1:]:
                longer.append((trail + [second], times(shift, own), song + [name]))
    return longer


def _part_beside(book, name):
    """Return the chords and the steps of the part in which a change is; none if it is in no part."""
    steps = book.steps
    if name not in steps:
        raise UnknownChange(name)
    first, second, _ = steps[name]
    part = part_of(book, first)
    if second not in part:
        return ([], {})
    return (part, steps_within(book, part))


def _sung(steps, chord, counts):
    """Return a song with a tally that is one of a song from a chord."""
    left = dict(counts)
    trail = [(chord, None)]
    song = []
    # Where there is no way on, the song ends as far as it is not told yet; what is left of the
    # tally comes back to a chord ahead, and is put in there.
    while trail != []:
        now, name = trail[-1]
        onward = _onward(steps, left, now)
        if onward is None:
            trail.pop()
            song.append(name)
        else:
            left[onward] -= 1
            trail.append((steps[onward][1], onward))
    # From back to front; the last one is that of the first chord, to which no change led.
    return song[:-1][::-1]


def _onward(steps, left, chord):
    """Return the first change that is left and leads from a chord, None if there is none."""
    for name, number in left.items():
        if number > 0 and steps[name][0] == chord:
            return name
    return None
