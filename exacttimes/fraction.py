"""Exact fractions from 0 up: a tuple of the upper and the lower number, not always in lowest terms."""


def greatest_divisor(one, other):
    while other != 0:
        rest = one % other
        one = other
        other = rest
    return one


def is_after(fraction, other):
    return fraction[0] * other[1] > other[0] * fraction[1]


def nearest(fraction):
    return (2 * fraction[0] + fraction[1]) // (2 * fraction[1])


# The whole number, and what's left in lowest terms: 0 1, if nothing's left.
def told(fraction):
    whole = fraction[0] // fraction[1]
    left = fraction[0] % fraction[1]
    divisor = greatest_divisor(fraction[1], left)
    return [whole, left // divisor, fraction[1] // divisor]
