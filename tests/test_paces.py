"""Points 7, 9, 11 and 13: the pace of a web, a ring with that mean, and a start."""

import math
import unittest
from fractions import Fraction

from meanpace.paces import pace, slower
from meanpace.rings import mean
from meanpace.webs import Web
from samples import (
    MIXED, all_rings, check_ring, check_start, mean_of, ring, some_ways, some_webs,
)


def best_by_rings(web):
    """The greatest mean of all rings, gone through one by one."""
    return max(mean_of(web, row) for row in all_rings(web))


def ratio(web):
    """The pace as one number."""
    return Fraction(*pace(web)[:2])


class PaceCase(unittest.TestCase):
    def check(self, web):
        told = pace(web)
        self.assertIs(type(told), tuple)
        number, divisor, meetings, start = told
        self.assertEqual([type(number), type(divisor)], [int, int])
        self.assertGreaterEqual(divisor, 1)
        self.assertEqual(math.gcd(number, divisor), 1)
        check_ring(self, web, meetings)
        self.assertEqual(mean(web, meetings), (number, divisor))
        self.assertEqual(mean_of(web, meetings), Fraction(number, divisor))
        check_start(self, web, number, divisor, start)
        self.assertIsNone(slower(web, number, divisor)[0])
        return (number, divisor)


class FewMeetingsTest(PaceCase):
    def test_one_meeting(self):
        for delay in (0, 1, 9999):
            web = Web(1, [(0, 0, delay)])
            self.assertEqual(self.check(web), (delay, 1))
            self.assertEqual(pace(web)[2], [0])
        self.assertEqual(self.check(Web(1, [(0, 0, 3), (0, 0, 8), (0, 0, 5)])), (8, 1))

    def test_two_meetings(self):
        web = Web(2, [(0, 1, 3), (1, 0, 4), (1, 1, 1)])
        self.assertEqual(self.check(web), (7, 2))
        self.assertEqual(pace(web)[2], [0, 1])
        self.assertEqual(self.check(Web(2, ring(2, 4))), (4, 1))
        self.assertEqual(self.check(Web(2, ring(2, 4) + [(1, 1, 5)])), (5, 1))

    def test_four_meetings(self):
        web = Web(4, MIXED)
        self.assertEqual(self.check(web), (10015, 4))
        self.assertEqual(pace(web)[2], [0, 1, 2, 3])

    def test_delays_that_are_all_nought(self):
        for many in range(1, 13):
            self.assertEqual(self.check(Web(many, ring(many, 0))), (0, 1))
            # The first meeting lies on no ring of its own, but before one.
            ways = ring(many, 0) + [(many - 1, many - 1, 0)]
            self.assertEqual(self.check(Web(many, ways)), (0, 1))

    def test_one_ring_through_1_to_12_meetings(self):
        for many in range(1, 13):
            web = Web(many, [(0, 1 % many, 1)] + ring(many, 0)[1:])
            self.assertEqual(self.check(web), (1, many))
            self.assertEqual(self.check(Web(many, ring(many, 9999))), (9999, 1))

    def test_against_all_rings(self):
        for many in (1, 2, 3, 4):
            for seed in range(60):
                ways = some_ways(many, seed % 13, seed * 3, (2, 5, 100, 10000)[seed % 4])
                web = Web(many, ways)
                self.assertEqual(Fraction(*self.check(web)), best_by_rings(web))


class MoreMeetingsTest(PaceCase):
    def test_the_ring_has_that_mean_and_the_start_holds(self):
        for limit in (1, 2, 10, 10000):
            for web in some_webs(limit):
                self.check(web)

    def test_two_rings_with_means_close_to_one_another(self):
        # 122 over 11 lies a little above 133 over 12, which lies above 11.
        web = Web(12, [(0, 1, 12)] + ring(12, 11)[1:] + [(10, 0, 11)])
        self.assertEqual(self.check(web), (122, 11))
        self.assertEqual(pace(web)[2], list(range(11)))
        web = Web(12, ring(12, 11)[:11] + [(11, 0, 12), (10, 0, 11)])
        self.assertEqual(self.check(web), (133, 12))
        self.assertEqual(pace(web)[2], list(range(12)))


class OtherWebsTest(PaceCase):
    """Webs that hang together with another one, and so do their paces."""

    def test_a_web_turned_about(self):
        for limit in (2, 10000):
            for web in some_webs(limit):
                turned = web.turned()
                self.assertEqual(self.check(turned), pace(web)[:2])

    def test_the_ways_in_another_order(self):
        for web in some_webs():
            told = pace(web)[:2]
            ways = list(web.ways)
            for other in (ways[::-1], sorted(ways), ways[3:] + ways[:3]):
                self.assertEqual(self.check(Web(web.many, other)), told)

    def test_the_meetings_told_by_other_numbers(self):
        for web in some_webs():
            last = web.many - 1
            ways = [(last - one, last - other, delay) for one, other, delay in web.ways]
            self.assertEqual(self.check(Web(web.many, ways)), pace(web)[:2])

    def test_a_number_added_to_each_delay(self):
        for web in some_webs(5000):
            for more in (1, 7, 5000):
                ways = [(one, other, delay + more) for one, other, delay in web.ways]
                added = Web(web.many, ways)
                self.check(added)
                self.assertEqual(ratio(added), ratio(web) + more)

    def test_each_delay_many_times_over(self):
        for web in some_webs(1000):
            ways = [(one, other, 9 * delay) for one, other, delay in web.ways]
            self.assertEqual(ratio(Web(web.many, ways)), 9 * ratio(web))

    def test_one_way_more(self):
        for web in some_webs(5000):
            if len(web.ways) == 60:
                continue
            for one, other in [(0, 0), (0, web.many - 1), (web.many - 1, 0)]:
                for delay in (0, 2500, 9999):
                    more = Web(web.many, web.ways + [(one, other, delay)])
                    self.check(more)
                    self.assertGreaterEqual(ratio(more), ratio(web))

    def test_one_way_more_that_changes_the_pace_or_does_not(self):
        for web in some_webs(5000):
            if len(web.ways) < 60:
                loop = Web(web.many, web.ways + [(0, 0, 9999)])
                self.assertEqual(pace(loop)[:3], (9999, 1, [0]))
                one, other, _ = web.ways[0]
                again = Web(web.many, web.ways + [(one, other, 0)])
                self.assertEqual(pace(again)[:2], pace(web)[:2])


if __name__ == "__main__":
    unittest.main()
