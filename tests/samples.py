"""Webs and helpers that several tests use."""

import itertools
from fractions import Fraction

from meanpace.errors import PaceError
from meanpace.webs import Web

# Four meetings, several ways from 0 to 1, two from 2 to itself, none from 1 to 0.
MIXED = [
    (0, 1, 5),
    (2, 2, 4),
    (1, 2, 0),
    (0, 1, 9),
    (2, 3, 7),
    (3, 0, 9999),
    (2, 1, 9),
    (0, 1, 2),
    (2, 2, 3),
    (3, 1, 0),
]

SIXTY = 10 ** 60 - 1


def ring(many, delay=1):
    """The ways of one ring through so many meetings."""
    return [(at, (at + 1) % many, delay) for at in range(many)]


def refusal(act, *told):
    """The class of the refusal that a call raises; None where it raises none."""
    try:
        act(*told)
    except PaceError as why:
        return type(why)
    return None


def numbers(seed, count, limit):
    """So many numbers below the limit, always the same ones for a seed."""
    found = []
    state = seed * 2654435761 + 12345
    for _ in range(count):
        state = (state * 6364136223846793005 + 1442695040888963407) % 2 ** 64
        found.append((state >> 24) % limit)
    return found


def some_ways(many, extra, seed, limit=10000):
    """Ways of one piece, with delays below the limit: a ring, and so many more."""
    delays = numbers(seed, many + extra, limit)
    order = sorted(range(many), key=numbers(seed + 1, many, 1000).__getitem__)
    ends = [(order[at], order[(at + 1) % many]) for at in range(many)]
    picks = numbers(seed + 2, 2 * extra, many)
    ends += list(zip(picks[:extra], picks[extra:]))
    return [(one, other, delay) for (one, other), delay in zip(ends, delays)]


def some_webs(limit=10000):
    """Webs of up to 12 meetings, from bare rings to sixty ways."""
    for many in range(1, 13):
        for seed, extra in enumerate((0, 1, 3, many, 60 - many)):
            yield Web(many, some_ways(many, extra, 100 * many + 10 * seed, limit))


def greatest(web):
    """For each pair of meetings with a straight way, the greatest delay."""
    found = {}
    for one, other, delay in web.ways:
        found[one, other] = max(delay, found.get((one, other), 0))
    return found


def steps_of(meetings):
    """The pairs of each meeting of a ring and the next one."""
    return list(zip(meetings, meetings[1:] + meetings[:1]))


def mean_of(web, meetings):
    """The mean of a ring, straight as point 7 tells it."""
    delays = greatest(web)
    return Fraction(sum(delays[step] for step in steps_of(meetings)), len(meetings))


def all_rings(web):
    """Every ring of the web, each begun at its least meeting."""
    held = greatest(web)
    for size in range(1, web.many + 1):
        for row in itertools.permutations(range(web.many), size):
            if row[0] == min(row) and all(step in held for step in steps_of(list(row))):
                yield list(row)


def check_ring(test, web, meetings):
    """A list of different meetings that begins with the least and leads round."""
    test.assertIs(type(meetings), list)
    test.assertGreater(len(meetings), 0)
    test.assertEqual(len(set(meetings)), len(meetings))
    test.assertEqual(meetings[0], min(meetings))
    for step in steps_of(meetings):
        test.assertIn(step, greatest(web))


def check_start(test, web, number, divisor, start):
    """A list of whole numbers that holds along every way, as point 9 tells it."""
    test.assertIs(type(start), list)
    test.assertEqual([type(height) for height in start], [int] * web.many)
    for one, other, delay in web.ways:
        test.assertGreaterEqual(start[other], start[one] + divisor * delay - number)
