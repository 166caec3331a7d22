"""Tallies: dicts of how often each of some changes is sung."""

from heldtones.books import chord_names, ends_of, led_to
from heldtones.ratios import UNISON
from heldtones.rows import added


def tally(numbers):
    """Return the tally of a list of tuples (change, number); None if a change stands twice."""
    counts = {name: number for name, number in numbers}
    if len(counts) < len(numbers):
        return None
    return counts


def listed(book, counts):
    """Return the numbers of a tally that are not 0, as tuples (change, number) in order."""
    return [(name, counts[name]) for name in ends_of(book) if counts.get(name, 0) != 0]


def total_shift(book, counts):
    """Return the product of the shifts of the changes of a tally."""
    shift = list(UNISON)
    for name, number in counts.items():
        shift = added(shift, book.shift(name), number)
    return tuple(shift)


def come_back(book, counts):
    """Return whether as many changes of a tally lead to each chord as from it."""
    return all([number == 0 for number in _surpluses(book, counts).values()])


def makes_song(book, chord, other, counts):
    """Return whether there is a song from a chord to another one with a tally, without a minus."""
    surpluses = _surpluses(book, counts)
    # As if one change more led back from the other chord to the first one.
    surpluses[other] -= 1
    surpluses[chord] += 1
    if not all([number == 0 for number in surpluses.values()]):
        return False
    ends = ends_of(book)
    steps = [ends[name] for name, number in counts.items() if number > 0]
    near = led_to(steps + [(second, first) for first, second in steps], chord)
    return all([first in near for first, _ in steps])


def _surpluses(book, counts):
    """Return for each chord how many more changes of a tally lead to it than from it."""
    surpluses = {name: 0 for name in chord_names(book)}
    ends = ends_of(book)
    for name, number in counts.items():
        first, second = ends[name]
        surpluses[first] -= number
        surpluses[second] += number
    return surpluses
