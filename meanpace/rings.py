"""Rings: meetings that lead on to one another and back, and their means."""

from math import gcd

from meanpace.errors import NoRing


def lowest(number, divisor):
    """The tuple of both in lowest terms."""
    common = gcd(number, divisor)
    return (number // common, divisor // common)


def mean(web, ring):
    """The sum of the delays along a ring over their count, in lowest terms."""
    # The web refuses what is no meeting here, before the list is judged as a ring.
    delays = [web.delay(one, other) for one, other in zip(ring, ring[1:] + ring[:1])]
    if not ring:
        raise NoRing("a ring has one meeting at least")
    if len(set(ring)) < len(ring):
        raise NoRing("a meeting comes twice")
    if None in delays:
        raise NoRing("from some meeting no way leads straight to the next one")
    return lowest(sum(delays), len(ring))
