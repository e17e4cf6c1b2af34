"""Rings of webs: walks that come back, and the mean weight of their rounds."""

from parlourday.cycles import greatest_mean, greatest_means, greatest_ring
from parlourday.plain import check_fraction, is_pair, turned_fraction
from parlourday.sums import turned
from parlourday.webs import check_web, follow


def mean_most(web):
    """The greatest mean of a ring of the web, as a fraction."""
    check_web(web)
    return greatest_mean(web)


def mean_least(web):
    """The least mean of a ring of the web, as a fraction."""
    check_web(web)
    return turned_fraction(greatest_mean(turned(web)))


def ring_most(web):
    """A ring with the greatest mean."""
    check_web(web)
    return greatest_ring(web)


def ring_least(web):
    """A ring with the least mean."""
    check_web(web)
    return greatest_ring(turned(web))


def ring_shows(web, fraction, thing):
    """Whether any object is a ring of the web with a fraction as its mean."""
    check_web(web)
    check_fraction(fraction)
    if not (is_pair(thing) and isinstance(thing[0], list) and isinstance(thing[1], list)):
        return False
    start, _, fault = follow(web, 0, thing[0])
    if fault is not None or len(thing[1]) == 0:
        return False
    end, total, fault = follow(web, start, thing[1])
    return fault is None and end == start and fraction[1] * total == fraction[0] * len(thing[1])


def means_from(web):
    """The tuple of the greatest mean of a ring met from each node on, None for nodes that are not met."""
    check_web(web)
    return greatest_means(web)
