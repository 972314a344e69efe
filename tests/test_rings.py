"""Point 7: lowest terms, rings and their means."""

import inspect
import unittest

from meanpace import rings
from meanpace.errors import NoMeeting, NoRing, PaceError
from meanpace.rings import lowest, mean
from meanpace.webs import Web
from samples import MIXED, mean_of, numbers, refusal, ring

# Both have forty figures, and no divisor in common but 1.
LARGE = 10 ** 39 + 7
OTHER = 10 ** 39 + 8


class LowestTest(unittest.TestCase):
    def check(self, number, divisor, told):
        self.assertEqual(lowest(number, divisor), told)
        self.assertEqual([type(part) for part in lowest(number, divisor)], [int, int])
        self.assertIs(type(lowest(number, divisor)), tuple)

    def test_nought_is_nought_over_one(self):
        for divisor in (1, 2, 12, LARGE):
            self.check(0, divisor, (0, 1))

    def test_equal_numbers(self):
        for number in (1, 2, 60, LARGE):
            self.check(number, number, (1, 1))

    def test_numbers_that_divide_one_another(self):
        self.check(12, 4, (3, 1))
        self.check(4, 12, (1, 3))
        self.check(LARGE * 9, LARGE, (9, 1))
        self.check(LARGE, LARGE * 9, (1, 9))

    def test_numbers_in_lowest_terms_stay(self):
        for pair in [(1, 1), (7, 1), (1, 7), (3, 2), (9999, 10), (LARGE, OTHER)]:
            self.check(*pair, pair)

    def test_some_of_the_divisors_are_common(self):
        self.check(12, 18, (2, 3))
        self.check(119988, 12, (9999, 1))
        self.check(119986, 12, (59993, 6))

    def test_forty_figures_with_a_common_divisor(self):
        # Twenty figures each, so that the products have forty.
        common = 10 ** 19 + 51
        one, other = 10 ** 20 - 1, 10 ** 20 - 2
        self.check(one * common, other * common, (one, other))
        self.check(other * common, one * common, (other, one))
        self.check(6 * LARGE, 4 * LARGE, (3, 2))

    def test_all_small_pairs(self):
        for number in range(40):
            for divisor in range(1, 40):
                told = lowest(number, divisor)
                self.assertEqual(told[0] * divisor, number * told[1])
                self.assertGreaterEqual(told[1], 1)
                for common in range(2, divisor + 1):
                    self.assertFalse(told[0] % common == 0 and told[1] % common == 0)


class MeanTest(unittest.TestCase):
    def test_a_ring_of_one_meeting(self):
        self.assertEqual(mean(Web(1, [(0, 0, 7)]), [0]), (7, 1))
        self.assertEqual(mean(Web(4, MIXED), [2]), (4, 1))

    def test_a_ring_of_two_meetings(self):
        web = Web(2, [(0, 1, 3), (1, 0, 4), (1, 1, 1)])
        self.assertEqual(mean(web, [0, 1]), (7, 2))
        self.assertEqual(mean(web, [1, 0]), (7, 2))
        self.assertEqual(mean(web, [1]), (1, 1))
        self.assertEqual(mean(Web(2, [(0, 1, 3), (1, 0, 5)]), [1, 0]), (4, 1))

    def test_rings_of_several_meetings(self):
        web = Web(4, MIXED)
        self.assertEqual(mean(web, [1, 2]), (9, 2))
        self.assertEqual(mean(web, [1, 2, 3]), (7, 3))
        self.assertEqual(mean(web, [0, 1, 2, 3]), (10015, 4))

    def test_a_ring_of_twelve_begun_at_each_of_its_meetings(self):
        delays = numbers(5, 12, 10000)
        delays[0] += 1 - sum(delays) % 2
        order = [3, 8, 0, 11, 5, 1, 10, 2, 7, 9, 4, 6]
        ends = [(order[at], order[(at + 1) % 12]) for at in range(12)]
        web = Web(12, [(one, other, delay) for (one, other), delay in zip(ends, delays)])
        whole = mean_of(web, order)
        for at in range(12):
            told = mean(web, order[at:] + order[:at])
            self.assertEqual(told, (whole.numerator, whole.denominator))
        self.assertEqual(mean(Web(12, ring(12, 9999)), list(range(12))), (9999, 1))

    def test_lowest_terms(self):
        ways = ring(12, 0)
        for total, told in [(1, (1, 12)), (8, (2, 3)), (9, (3, 4)), (24, (2, 1))]:
            web = Web(12, [(0, 1, total)] + ways[1:])
            self.assertEqual(mean(web, list(range(12))), told)

    def test_the_greatest_delay_of_several_ways_counts(self):
        for delays in ([1, 2, 9], [9, 1, 2], [2, 9, 1], [9, 9, 0]):
            ways = [(0, 1, delay) for delay in delays] + [(1, 0, 4), (1, 0, 2)]
            self.assertEqual(mean(Web(2, ways), [0, 1]), (13, 2))
            self.assertEqual(mean(Web(2, ways), [1, 0]), (13, 2))

    def test_only_the_ways_of_the_ring_count(self):
        web = Web(3, ring(3, 5) + [(0, 2, 9999), (1, 1, 9999), (2, 1, 9999)])
        self.assertEqual(mean(web, [0, 1, 2]), (5, 1))
        self.assertEqual(mean(web, [0, 2]), (5002, 1))

    def test_delays_that_are_all_nought(self):
        for many in (1, 2, 12):
            web = Web(many, ring(many, 0))
            told = mean(web, list(range(many)))
            self.assertEqual(told, (0, 1))
            self.assertIs(type(told), tuple)


class RefusedTest(unittest.TestCase):
    def refused(self, kind, web, meetings):
        self.assertIs(refusal(mean, web, meetings), kind)
        for caught in (kind, PaceError, ValueError):
            with self.assertRaises(caught):
                mean(web, meetings)

    def test_what_is_no_meeting(self):
        web = Web(4, MIXED)
        for wrong in (-1, -4, 4, 5, 10 ** 60, 10 ** 5000, -(10 ** 5000)):
            for meetings in ([wrong], [wrong, 2], [2, wrong], [1, 2, wrong, 3]):
                self.refused(NoMeeting, web, meetings)
        self.refused(NoMeeting, Web(1, ring(1)), [1])

    def test_an_empty_list(self):
        for many in (1, 2, 12):
            self.refused(NoRing, Web(many, ring(many)), [])

    def test_a_meeting_that_comes_twice(self):
        web = Web(4, MIXED)
        for meetings in ([2, 2], [1, 2, 1, 2], [1, 2, 2], [2, 2, 1], [0, 1, 2, 3, 2, 3]):
            self.refused(NoRing, web, meetings)
        self.refused(NoRing, Web(1, ring(1)), [0, 0])
        self.refused(NoRing, Web(12, ring(12)), list(range(12)) * 2)

    def test_a_step_without_a_way(self):
        web = Web(4, MIXED)
        for meetings in ([0], [1], [1, 0], [0, 2, 3], [3, 2, 1, 0], [2, 3, 0]):
            self.refused(NoRing, web, meetings)

    def test_the_step_from_the_last_one_to_the_first(self):
        self.refused(NoRing, Web(4, MIXED), [0, 1, 2])
        for many in range(2, 13):
            self.refused(NoRing, Web(many, ring(many)), list(range(many - 1)))

    def test_the_ring_gone_against_its_ways(self):
        for many in range(3, 13):
            web = Web(many, ring(many))
            self.refused(NoRing, web, list(range(many))[::-1])

    def test_no_meeting_comes_before_no_ring(self):
        web = Web(4, MIXED)
        for meetings in ([2, 2, 4], [4, 4], [0, 2, 1, -1], [1, 0, 2, 0, 9], [-1, 0, 0]):
            self.refused(NoMeeting, web, meetings)


class InterfaceTest(unittest.TestCase):
    def test_the_names_and_the_arguments(self):
        listed = {"lowest": ["number", "divisor"], "mean": ["web", "ring"]}
        for name, arguments in listed.items():
            act = getattr(rings, name)
            self.assertEqual(act.__module__, "meanpace.rings")
            self.assertEqual(list(inspect.signature(act).parameters), arguments)


if __name__ == "__main__":
    unittest.main()
