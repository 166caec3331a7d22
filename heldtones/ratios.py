"""Ratios of pitches: tuples of the exponents of 2, 3 and 5."""

PRIMES = (2, 3, 5)
UNISON = (0, 0, 0)


def times(one, other):
    """Return the product of two ratios."""
    return (one[0] + other[0], one[1] + other[1], one[2] + other[2])


def over(one, other):
    """Return the first ratio divided by the second one."""
    return (one[0] - other[0], one[1] - other[1], one[2] - other[2])


def is_greater(one, other):
    """Return whether the first ratio is greater than the second one."""
    top, bottom = fraction(over(one, other))
    return top > bottom


def fraction(ratio):
    """Return the number of a ratio as a tuple (top, bottom) in lowest terms."""
    top = 1
    bottom = 1
    # Each prime goes to one side only, so that nothing is left to cancel.
    for prime, exponent in zip(PRIMES, ratio):
        if exponent > 0:
            top = top * _power(prime, exponent)
        else:
            bottom = bottom * _power(prime, -exponent)
    return (top, bottom)


def _power(base, exponent):
    """Return the power of a base, with an exponent of at least 0."""
    told = 1
    # By squaring: the shift of a long song may have large exponents.
    while exponent > 0:
        if exponent & 1 == 1:
            told = told * base
        base = base * base
        exponent = exponent >> 1
    return told
