"""Points 8, 9 and 10: for any pace a ring that is slower, or a start."""

import inspect
import itertools
import unittest
from fractions import Fraction

from meanpace import paces
from meanpace.errors import BadPace, PaceError
from meanpace.paces import slower
from meanpace.webs import Web
from samples import (
    MIXED, all_rings, check_ring, check_start, greatest, mean_of, refusal, ring, some_webs,
)

THIRTY = 10 ** 29


def best_of(web):
    """The greatest mean, from the greatest delays over so many steps (Karp)."""
    delays = greatest(web)
    rows = [[0] + [None] * (web.many - 1)]
    for _ in range(web.many):
        sums = [None] * web.many
        for (one, other), delay in delays.items():
            if rows[-1][one] is not None:
                then = rows[-1][one] + delay
                sums[other] = then if sums[other] is None else max(then, sums[other])
        rows.append(sums)
    return max(
        min(
            Fraction(rows[-1][at] - rows[count][at], web.many - count)
            for count in range(web.many)
            if rows[count][at] is not None
        )
        for at in range(web.many)
        if rows[-1][at] is not None
    )


class SlowerCase(unittest.TestCase):
    def check_slow(self, web, number, divisor):
        told = slower(web, number, divisor)
        self.assertIs(type(told), tuple)
        self.assertEqual(len(told), 2)
        self.assertIsNotNone(told[0])
        self.assertIsNone(told[1])
        check_ring(self, web, told[0])
        self.assertGreater(mean_of(web, told[0]), Fraction(number, divisor))

    def check_start(self, web, number, divisor):
        told = slower(web, number, divisor)
        self.assertIs(type(told), tuple)
        self.assertEqual(len(told), 2)
        self.assertIsNone(told[0])
        check_start(self, web, number, divisor, told[1])

    def check_about(self, web, best):
        """Paces just below, at and just above the greatest mean, and far from it."""
        number, divisor = best.numerator, best.denominator
        for times in (1, 2, 6, 1000, THIRTY // 10 ** 6):
            self.check_start(web, number * times, divisor * times)
            self.check_start(web, number * times + 1, divisor * times)
            if number > 0:
                self.check_slow(web, number * times - 1, divisor * times)
        self.check_start(web, number + 5, divisor)
        self.check_start(web, THIRTY * 9, 1)
        if number > 0:
            self.check_slow(web, 0, 1)
            self.check_slow(web, 0, THIRTY * 9)
            self.check_slow(web, THIRTY, THIRTY * 9 * 10 ** 7)


class FewMeetingsTest(SlowerCase):
    def test_one_meeting(self):
        for delay in (0, 1, 7, 9999):
            self.check_about(Web(1, [(0, 0, delay)]), Fraction(delay))
        self.check_about(Web(1, [(0, 0, 2), (0, 0, 6), (0, 0, 0)]), Fraction(6))
        self.assertEqual(slower(Web(1, [(0, 0, 7)]), 6, 1), ([0], None))

    def test_two_meetings(self):
        web = Web(2, [(0, 1, 3), (1, 0, 4), (1, 1, 1)])
        self.check_about(web, Fraction(7, 2))
        self.assertEqual(slower(web, 34, 10), ([0, 1], None))
        web = Web(2, [(0, 1, 3), (1, 0, 4), (1, 1, 4)])
        self.check_about(web, Fraction(4))
        self.assertEqual(slower(web, 7, 2), ([1], None))

    def test_four_meetings(self):
        web = Web(4, MIXED)
        self.check_about(web, Fraction(10015, 4))
        self.assertEqual(slower(web, 2503, 1), ([0, 1, 2, 3], None))

    def test_the_ring_follows_the_ways(self):
        there = ring(5, 5)
        back = [(other, one, 1) for one, other, _ in there]
        self.assertEqual(slower(Web(5, there + back), 3, 1), ([0, 1, 2, 3, 4], None))
        there, back = [(o, e, 1) for o, e, _ in there], [(o, e, 5) for o, e, _ in back]
        self.assertEqual(slower(Web(5, there + back), 3, 1), ([0, 4, 3, 2, 1], None))

    def test_the_ring_begins_with_its_least_meeting_wherever_it_lies(self):
        slow = [(4, 2, 9), (2, 5, 9), (5, 3, 9), (3, 4, 9)]
        self.assertEqual(slower(Web(6, ring(6) + slow), 8, 1), ([2, 5, 3, 4], None))

    def test_one_of_several_ways_is_slow_enough(self):
        for delays in ([1, 9], [9, 1]):
            web = Web(2, [(0, 1, delay) for delay in delays] + [(1, 0, 1)])
            self.check_about(web, Fraction(5))

    def test_all_delays_are_nought(self):
        for many in (1, 2, 12):
            self.check_about(Web(many, ring(many, 0)), Fraction(0))

    def test_against_all_rings(self):
        for web in itertools.islice(some_webs(30), 20):
            means = {mean_of(web, row) for row in all_rings(web)}
            for number in range(0, 93):
                told = slower(web, number, 3)
                slow = any(known > Fraction(number, 3) for known in means)
                self.assertEqual(told[0] is not None, slow)
                self.assertEqual(told[1] is None, slow)


class MoreMeetingsTest(SlowerCase):
    def test_about_the_greatest_mean(self):
        for limit in (2, 10, 10000):
            for web in some_webs(limit):
                self.check_about(web, best_of(web))

    def test_twelve_meetings_and_one_ring(self):
        web = Web(12, [(0, 1, 1)] + ring(12, 0)[1:])
        self.check_about(web, Fraction(1, 12))
        self.assertEqual(slower(web, 0, 1), (list(range(12)), None))
        self.assertEqual(slower(web, THIRTY, 12 * THIRTY + 1), (list(range(12)), None))
        self.check_start(web, THIRTY, 12 * THIRTY)
        self.check_start(web, THIRTY, 12 * THIRTY - 1)

    def test_a_pace_is_not_taken_in_lowest_terms(self):
        # The start holds for the number and the divisor as they were handed in.
        web = Web(3, [(0, 1, 9), (1, 2, 0), (2, 0, 0)])
        for times in (1, 2, 7, THIRTY):
            self.check_start(web, 3 * times, times)
            self.check_slow(web, 3 * times - 1, times)


class RefusedTest(unittest.TestCase):
    def test_a_number_below_nought_or_a_divisor_below_one(self):
        for web in (Web(1, ring(1, 0)), Web(4, MIXED)):
            for number, divisor in [(-1, 1), (0, 0), (3, 0), (3, -1), (-1, 0), (-1, -1),
                                    (-(10 ** 5000), 1), (1, -(10 ** 5000))]:
                self.assertIs(refusal(slower, web, number, divisor), BadPace)
                for caught in (PaceError, ValueError):
                    with self.assertRaises(caught):
                        slower(web, number, divisor)

    def test_the_least_pace_is_taken(self):
        self.assertIsNone(refusal(slower, Web(4, MIXED), 0, 1))
        self.assertIsNone(refusal(slower, Web(1, ring(1, 0)), 0, 1))


class InterfaceTest(unittest.TestCase):
    def test_the_names_and_the_arguments(self):
        listed = {"slower": ["web", "number", "divisor"], "pace": ["web"]}
        for name, arguments in listed.items():
            act = getattr(paces, name)
            self.assertEqual(act.__module__, "meanpace.paces")
            self.assertEqual(list(inspect.signature(act).parameters), arguments)


if __name__ == "__main__":
    unittest.main()
