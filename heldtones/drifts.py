"""Pitches that can be come to in even parts, by numbers of changes, or not, by rests."""

from heldtones.books import chord_names, part_of, steps_within
from heldtones.errors import NotEven, UnknownChord, UnlikeParts
from heldtones.evenness import balances, even_counts, first_uneven
from heldtones.rows import added, bar, leading, least_rows, remainder, weighed
from heldtones.tallies import listed, makes_song, tally, total_shift
from heldtones.ways import ways_from
from heldtones.weighings import by_name, lifted, weighed_steps

# The first columns of a row are the exponents of 2, 3 and 5; where there are more, they tell how
# often each change of a part is sung: if less than 0 times, a song that is even puts that right.
EXPONENTS = 3


def lattice(book, chord):
    """Return the least rows of the drifts of the songs from a chord that come back."""
    steps = _even_part(book, chord, chord)[1]
    least = _least(steps, ways_from(steps, chord, EXPONENTS))
    return [(row[0], row[1], row[2]) for row in least]


def can_come(book, chord, other, ratio):
    """Return whether a song from a chord to another one has a ratio as its shift."""
    steps = _even_part(book, chord, other)[1]
    ways = ways_from(steps, chord, EXPONENTS)
    return _comes(_missed(ratio, ways[other], _least(steps, ways)))


def come_numbers(book, chord, other, ratio):
    """Return numbers of a song from a chord to another one with a shift, None if there are none."""
    part, steps = _even_part(book, chord, other)
    counted = _counted(steps)
    ways = ways_from(counted, chord, EXPONENTS + len(steps))
    missed = _missed(list(ratio) + [0] * len(steps), ways[other], _least(counted, ways))
    if not _comes(missed):
        return None
    counts = {name: -number for name, number in zip(steps, missed[EXPONENTS:])}
    even = _even_tally(balances(part, steps))
    # As often as it takes for no number to be below 0.
    many = max([0] + [-(counts[name] // even[name]) for name in steps])
    counts = {name: counts[name] + many * even[name] for name in steps}
    if not makes_song(book, chord, other, counts):
        # Once more, and there are some of each change, so that all hang together.
        counts = {name: counts[name] + even[name] for name in steps}
    return listed(book, counts)


def judge_numbers(book, chord, other, ratio, numbers):
    """Return whether numbers are those of a song from a chord to another one with a shift."""
    _even_part(book, chord, other)
    counts = tally(numbers)
    steps = book.steps
    if counts is None or any([name not in steps or number < 1 for name, number in numbers]):
        return False
    return makes_song(book, chord, other, counts) and total_shift(book, counts) == ratio


def rests(book, chord, other, ratio):
    """Return (modulus, weights, heights) by which no song has a shift, None if one has it."""
    part, steps = _even_part(book, chord, other)
    ways = ways_from(steps, chord, EXPONENTS)
    least = _least(steps, ways)
    missed = _missed(ratio, ways[other], least)
    if _comes(missed):
        return None
    modulus, weights = bar(least, leading(missed), EXPONENTS)
    heights = [(name, -weighed(weights, ways[name])) for name in part]
    return (modulus, (weights[0], weights[1], weights[2]), heights)


def judge_rests(book, chord, other, ratio, told):
    """Return whether (modulus, weights, heights) show that no song has a shift."""
    part, steps = _even_part(book, chord, other)
    modulus, weights, levels = told
    heights = by_name(levels, part)
    if modulus < 0 or heights is None:
        return False
    worths = weighed_steps(steps, weights, heights)
    if not all([_is_multiple(worth, modulus) for worth in worths.values()]):
        return False
    return not _is_multiple(lifted(weights, heights, ratio, (chord, other)), modulus)


def _even_part(book, chord, other):
    """Return the chords and the steps of an even part, or raise why two chords are in none."""
    names = chord_names(book)
    for name in (chord, other):
        if name not in names:
            raise UnknownChord(name)
    part = part_of(book, chord)
    if other not in part:
        raise UnlikeParts((chord, other))
    steps = steps_within(book, part)
    uneven = first_uneven(balances(part, steps))
    if uneven is not None:
        raise NotEven(uneven)
    return (part, steps)


def _even_tally(rows):
    """Return a tally of songs, by balances, that are even together, with some of all changes."""
    counts = {name: 0 for name in rows}
    for name in rows:
        if counts[name] == 0:
            for other, number in even_counts(rows, name).items():
                counts[other] += number
    return counts


def _counted(steps):
    """Return the steps with rows that also tell which change is sung."""
    return {
        name: (first, second, list(shift) + [int(other == name) for other in steps])
        for name, (first, second, shift) in steps.items()
    }


def _least(steps, ways):
    """Return the least rows of all that comes back, by the rows of ways to the chords of a part."""
    rows = []
    for first, second, row in steps.values():
        # Back by the way turned round: in an even part a song with the same shift goes there.
        rows.append([
            there + own - back for there, own, back in zip(ways[first], row, ways[second])
        ])
    return least_rows(rows, EXPONENTS)


def _missed(aim, way, least):
    """Return the row that is left of an aim, less the way to its chord and all that comes back."""
    return remainder(added(aim, way, -1), least)


def _comes(missed):
    """Return whether nothing of a ratio is left."""
    return missed[:EXPONENTS] == [0] * EXPONENTS


def _is_multiple(number, modulus):
    """Return whether a number is a multiple of a modulus, of 0 only if it is 0."""
    if modulus == 0:
        return number == 0
    return number % modulus == 0
