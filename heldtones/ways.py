"""Ways from a chord to others, and the rows that are summed up along them."""

from heldtones.rows import added


def ways_from(steps, chord, width):
    """Return the row of a way from a chord to each chord to which steps lead.

    Each step is a tuple of two chords and the row of this width that is added from the first one
    to the second one.
    """
    found = {chord: [0] * width}
    many = 0
    while many < len(found):
        many = len(found)
        for first, second, row in steps.values():
            if first in found and second not in found:
                found[second] = added(found[first], row, 1)
    return found
