"""What an integer and a fraction are, for all parts of the program."""

from math import gcd

from parlourday.errors import BadCount, BadFraction


def is_whole(thing):
    """Whether an object is an integer; True and False are none."""
    return isinstance(thing, int) and not isinstance(thing, bool)


def is_whole_in(thing, low, high):
    """Whether an object is an integer from low to high."""
    return is_whole(thing) and low <= thing <= high


def is_pair(thing):
    """Whether an object is a tuple of two."""
    return isinstance(thing, tuple) and len(thing) == 2


def check_count(thing, low, high):
    """Raise BadCount for what is no integer from low to high."""
    if not is_whole_in(thing, low, high):
        raise BadCount(f"a count is an integer from {low} to {high}")


def check_fraction(thing):
    """Raise BadFraction for what is no fraction."""
    if not (is_pair(thing) and is_whole(thing[0]) and is_whole(thing[1]) and thing[1] >= 1):
        raise BadFraction("a fraction is a tuple of an integer and one from 1 on")


def lowest_terms(fraction):
    """The same fraction in lowest terms."""
    above, below = fraction
    shared = gcd(above, below)
    return (above // shared, below // shared)


def fraction_sum(fraction, other):
    """The sum of two fractions, in lowest terms."""
    return lowest_terms((fraction[0] * other[1] + other[0] * fraction[1], fraction[1] * other[1]))


def is_greater(fraction, other):
    """Whether a fraction is above another one."""
    return fraction[0] * other[1] > other[0] * fraction[1]


def turned_fraction(fraction):
    """The fraction with the other sign."""
    return (-fraction[0], fraction[1])


def fault_in(thing, fits, most):
    """The place from which on an object is no list of at most so many entries that fit.

    -1 for what is no list, None if it is such a list.
    """
    if not isinstance(thing, list):
        return -1
    for place, entry in enumerate(thing[:most]):
        if not fits(entry):
            return place
    return most if len(thing) > most else None


def is_firm(thing, depth):
    """Whether an object is an integer, or a tuple of such, so many tuples within one another at most."""
    if isinstance(thing, tuple):
        return depth > 0 and all([is_firm(part, depth - 1) for part in thing])
    return is_whole(thing)
