"""Paces: the rings that are slower than a pace, or a start for it."""

from meanpace.errors import BadPace
from meanpace.rings import mean


def _steps(web, number, divisor):
    """The ways, each with what a start for the pace rises by along it at least."""
    return [
        (one, other, divisor * delay - number)
        for other in range(web.many)
        for one, delay in web.into(other)
    ]


def _lift(steps, heights, before):
    """Lift each meeting that lies too low along a way; tell one of them, or None.

    The meeting that it was lifted from is kept in before.
    """
    lifted = None
    for one, other, rise in steps:
        height = heights[one] + rise
        if heights[other] < height:
            heights[other] = height
            before[other] = one
            lifted = other
    return lifted


def _ring_behind(before, meeting):
    """The ring that one comes to from a meeting, always going to the one before."""
    trail = []
    while meeting not in trail:
        trail.append(meeting)
        meeting = before[meeting]
    # The trail goes against the ways.
    ring = trail[trail.index(meeting):][::-1]
    least = ring.index(min(ring))
    return ring[least:] + ring[:least]


def _some_ring(web):
    """Any ring of the web; there is one, since some way leads to each meeting."""
    before = [web.into(meeting)[0][0] for meeting in range(web.many)]
    return _ring_behind(before, 0)


def slower(web, number, divisor):
    """A ring that is slower than the pace, and None; or None, and a start for it."""
    if number < 0 or divisor < 1:
        raise BadPace("a pace is a number from 0 on over a divisor from 1 on")
    steps = _steps(web, number, divisor)
    heights = [0] * web.many
    before = [None] * web.many
    # Without a slower ring, the highest sums come along fewer ways than there
    # are meetings, so the last of these rounds lifts nothing.
    for _ in range(web.many):
        lifted = _lift(steps, heights, before)
        if lifted is None:
            return (None, heights)
    # What is still lifted in the last round was lifted from a meeting that was
    # lifted one round before at the earliest, and so on back: by so many steps
    # back some meeting comes again. Round such a ring the rises add up to more
    # than nought, since the meeting lifted last was lifted by its way.
    return (_ring_behind(before, lifted), None)


def pace(web):
    """The pace's number and divisor, a ring with that mean, and a start for it."""
    slow = _some_ring(web)
    # Each ring has a greater mean than the one before, so none comes twice.
    while slow is not None:
        ring = slow
        number, divisor = mean(web, ring)
        slow, start = slower(web, number, divisor)
    return (number, divisor, ring, start)
