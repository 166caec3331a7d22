"""Weighings: ratios are weighed by integers, one for each exponent, and chords have heights."""

from heldtones.rows import weighed


def by_name(told, names):
    """Return what is told of each name; None if not just each of the names stands once there."""
    if sorted([name for name, _ in told]) != sorted(names):
        return None
    return {name: worth for name, worth in told}


def lifted(weights, heights, ratio, ends):
    """Return what a ratio weighs between two chords, with the heights of these."""
    first, second = ends
    return weighed(weights, ratio) + heights[second] - heights[first]


def weighed_steps(steps, weights, heights):
    """Return what the shift of each of some steps weighs, with the heights of its chords."""
    return {
        name: lifted(weights, heights, shift, (first, second))
        for name, (first, second, shift) in steps.items()
    }
