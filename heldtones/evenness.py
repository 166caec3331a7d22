"""Which changes of a part can be made good, by numbers of changes, and which cannot, by weights."""

from math import gcd

from heldtones.cones import cone
from heldtones.rows import weighed


def balances(part, steps):
    """Return the balance of each change of a part: its shift, and how often it leads to each chord."""
    width = len(part)
    places = {chord: place for place, chord in enumerate(part)}
    rows = {}
    for name, (first, second, shift) in steps.items():
        leads = [0] * width
        leads[places[first]] -= 1
        leads[places[second]] += 1
        rows[name] = list(shift) + leads
    return rows


def even_counts(rows, name):
    """Return numbers, by balances, of songs that are even together and have a change, or None."""
    multiples, scale, _ = _made_good(rows, name)
    if multiples is None:
        return None
    counts = {other: number for other, number in zip(rows, multiples)}
    counts[name] += scale
    common = _divisor(list(counts.values()))
    return {other: number // common for other, number in counts.items()}


def uneven_weights(rows, name):
    """Return weights, by balances, by which a change cannot be made good, None if it can."""
    told = _made_good(rows, name)[2]
    if told is None:
        return None
    common = _divisor(told)
    return [number // common for number in told]


def hindrance(rows):
    """Return weights, by balances, by which not all changes can be made good, None if all can.

    By them no change weighs less than 0, and at least one weighs more.
    """
    if rows == {}:
        return None
    # Songs that make good each of them make good all of them, when they are taken together.
    told = list(rows.values())
    return cone(told, [-sum(column) for column in zip(*told)])[2]


def first_uneven(rows):
    """Return, by balances, the first change that cannot be made good, None if there is none."""
    weights = hindrance(rows)
    if weights is None:
        return None
    for name, row in rows.items():
        if weighed(weights, row) > 0 or uneven_weights(rows, name) is not None:
            return name
    return None


def _made_good(rows, name):
    """Return how a change is made good by all of them, or why not, as a cone tells it."""
    return cone(list(rows.values()), [-number for number in rows[name]])


def _divisor(numbers):
    """Return the greatest common divisor of some integers, not all of them 0."""
    common = 0
    for number in numbers:
        common = gcd(common, number)
    return common
