"""Pitches that can be come to in even parts, by numbers of changes, or not, by rests."""

from heldtones.books import chord_names, changes_of, ends_of, part_of
from heldtones.errors import NotEven, UnknownChord, UnlikeParts
from heldtones.pitches import even_numbers
from heldtones.rows import added, bar, leading, least_rows, remainder, weighed
from heldtones.tallies import listed, makes_song, tally, total_shift
from heldtones.weighings import by_name, lifted, weighed_changes

# The first columns of a row are the exponents of 2, 3 and 5, the others tell how often each change
# of a part is sung; where less than 0 times, a song that is even puts that right.
EXPONENTS = 3


def lattice(book, chord):
    """Return the least rows of the drifts of the songs from a chord that come back."""
    _check(book, chord, chord)
    return [(row[0], row[1], row[2]) for row in _least(book, _ways(book, chord))]


def can_come(book, chord, other, ratio):
    """Return whether a song from a chord to another one has a ratio as its shift."""
    _check(book, chord, other)
    return _comes(_missed(book, chord, other, ratio))


def come_numbers(book, chord, other, ratio):
    """Return numbers of a song from a chord to another one with a shift, None if there are none."""
    _check(book, chord, other)
    missed = _missed(book, chord, other, ratio)
    if not _comes(missed):
        return None
    names = changes_of(book, chord)
    counts = {name: -number for name, number in zip(names, missed[EXPONENTS:])}
    even = _even_tally(book, names)
    # As often as it takes for no number to be below 0.
    many = max([0] + [-(counts[name] // even[name]) for name in names])
    counts = {name: counts[name] + many * even[name] for name in names}
    if not makes_song(book, chord, other, counts):
        # Once more, and there are some of each change, so that all hang together.
        counts = {name: counts[name] + even[name] for name in names}
    return listed(book, counts)


def judge_numbers(book, chord, other, ratio, numbers):
    """Return whether numbers are those of a song from a chord to another one with a shift."""
    _check(book, chord, other)
    counts = tally(numbers)
    ends = ends_of(book)
    if counts is None or any([name not in ends or number < 1 for name, number in numbers]):
        return False
    return makes_song(book, chord, other, counts) and total_shift(book, counts) == ratio


def rests(book, chord, other, ratio):
    """Return (modulus, weights, heights) by which no song has a shift, None if one has it."""
    _check(book, chord, other)
    missed = _missed(book, chord, other, ratio)
    if _comes(missed):
        return None
    ways = _ways(book, chord)
    modulus, weights = bar(_least(book, ways), leading(missed), EXPONENTS)
    heights = [(name, -weighed(weights, ways[name])) for name in part_of(book, chord)]
    return (modulus, (weights[0], weights[1], weights[2]), heights)


def judge_rests(book, chord, other, ratio, told):
    """Return whether (modulus, weights, heights) show that no song has a shift."""
    _check(book, chord, other)
    modulus, weights, levels = told
    heights = by_name(levels, part_of(book, chord))
    if modulus < 0 or heights is None:
        return False
    worths = weighed_changes(book, changes_of(book, chord), weights, heights)
    if not all([_is_multiple(worth, modulus) for worth in worths.values()]):
        return False
    return not _is_multiple(lifted(weights, heights, ratio, (chord, other)), modulus)


def _check(book, chord, other):
    """Raise an error if not two chords of one part that is even are told."""
    names = chord_names(book)
    for name in (chord, other):
        if name not in names:
            raise UnknownChord(name)
    if other not in part_of(book, chord):
        raise UnlikeParts((chord, other))
    for name in changes_of(book, chord):
        if even_numbers(book, name) is None:
            raise NotEven(name)


def _even_tally(book, names):
    """Return a tally of songs that are even together, with some of all changes of a part."""
    counts = {name: 0 for name in names}
    for name in names:
        if counts[name] == 0:
            for other, number in even_numbers(book, name):
                counts[other] += number
    return counts


def _row(book, names, name):
    """Return the row of a change."""
    return list(book.shift(name)) + [int(other == name) for other in names]


def _ways(book, chord):
    """Return the row of a song from a chord to each chord of its part."""
    names = changes_of(book, chord)
    ends = ends_of(book)
    ways = {chord: [0] * (EXPONENTS + len(names))}
    # Each round comes at least one change further, until the whole part is there.
    for _ in names:
        for name in names:
            first, second = ends[name]
            if first in ways and second not in ways:
                ways[second] = added(ways[first], _row(book, names, name), 1)
    return ways


def _least(book, ways):
    """Return the least rows of all that comes back, by the rows of ways to the chords of a part."""
    ends = ends_of(book)
    names = changes_of(book, list(ways)[0])
    rows = []
    for name in names:
        first, second = ends[name]
        # Back by the way turned round: in an even part a song with the same shift goes there.
        rows.append(added(added(ways[first], _row(book, names, name), 1), ways[second], -1))
    return least_rows(rows, EXPONENTS)


def _missed(book, chord, other, ratio):
    """Return the row that is left of a ratio, less its way and all that comes back."""
    ways = _ways(book, chord)
    aim = list(ratio) + [0] * (len(ways[chord]) - EXPONENTS)
    return remainder(added(aim, ways[other], -1), _least(book, ways))


def _comes(missed):
    """Return whether nothing of a ratio is left."""
    return missed[:EXPONENTS] == [0] * EXPONENTS


def _is_multiple(number, modulus):
    """Return whether a number is a multiple of a modulus, of 0 only if it is 0."""
    if modulus == 0:
        return number == 0
    return number % modulus == 0
