"""Webs and helpers that several tests use."""

from meanpace.errors import PaceError

# Four meetings, several ways from 0 to 1, two from 2 to itself, none from 1 to 0.
MIXED = [
    (0, 1, 5),
    (2, 2, 4),
    (1, 2, 0),
    (0, 1, 9),
    (2, 3, 7),
    (3, 0, 9999),
    (2, 1, 9),
    (0, 1, 2),
    (2, 2, 3),
    (3, 1, 0),
]


def ring(many, delay=1):
    """The ways of one ring through so many meetings."""
    return [(at, (at + 1) % many, delay) for at in range(many)]


def refusal(act, *told):
    """The class of the refusal that a call raises; None where it raises none."""
    try:
        act(*told)
    except PaceError as why:
        return type(why)
    return None
