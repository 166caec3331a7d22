"""Tallies: dicts of how often each of some changes is sung."""

from heldtones.books import chord_names, led_to
from heldtones.ratios import UNISON
from heldtones.rows import added


def tally(numbers):
    """Return the tally of a list of tuples (change, number); None if a change stands twice."""
    counts = {name: number for name, number in numbers}
    if len(counts) < len(numbers):
        return None
    return counts


def listed(book, counts):
    """Return the numbers of a tally that are not 0, as tuples (change, number) in order."""
    return [(name, counts[name]) for name in book.steps if counts.get(name, 0) != 0]


def total_shift(book, counts):
    """Return the product of the shifts of the changes of a tally."""
    steps = book.steps
    shift = list(UNISON)
    for name, number in counts.items():
        shift = added(shift, steps[name][2], number)
    return tuple(shift)


def come_back(book, counts):
    """Return whether as many changes of a tally lead to each chord as from it."""
    return all([number == 0 for number in _surpluses(book, counts).values()])


def makes_song(book, chord, other, counts):
    """Return whether there is a song from a chord to another one with a tally, without a minus."""
    surpluses = _surpluses(book, counts)
    # As if one change more led back from the other chord to the first one.
    surpluses[other] -= 1
    surpluses[chord] += 1
    if not all([number == 0 for number in surpluses.values()]):
        return False
    ways = [
        (first, second) for name, (first, second, _) in book.steps.items()
        if counts.get(name, 0) > 0
    ]
    near = led_to(ways + [(second, first) for first, second in ways], chord)
    return all([first in near for first, _ in ways])


def _surpluses(book, counts):
    """Return for each chord how many more changes of a tally lead to it than from it."""
    steps = book.steps
    surpluses = {name: 0 for name in chord_names(book)}
    for name, number in counts.items():
        first, second, _ = steps[name]
        surpluses[first] -= number
        surpluses[second] += number
    return surpluses
