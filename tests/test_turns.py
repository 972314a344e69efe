"""Point 5: the next times, and the times turn by turn."""

import unittest

from meanpace.errors import BadCount, PaceError
from meanpace.webs import Web
from samples import MIXED, refusal, ring

SIXTY = 10 ** 60 - 1


def next_times(web, times):
    """The next times, straight as point 5 tells them."""
    return [
        max(times[one] + delay for one, other, delay in web.ways if other == meeting)
        for meeting in range(web.many)
    ]


class AheadTest(unittest.TestCase):
    def test_a_ring_hands_the_times_on(self):
        self.assertEqual(Web(3, ring(3, 5)).ahead([1, 2, 3]), [8, 6, 7])

    def test_the_greatest_sum_over_all_ways(self):
        web = Web(4, MIXED)
        self.assertEqual(web.ahead([0, 0, 0, 0]), [9999, 9, 4, 7])
        self.assertEqual(web.ahead([10, 20, 11, 30]), [10029, 30, 20, 18])

    def test_the_greatest_sum_may_come_by_a_lesser_delay(self):
        web = Web(2, [(0, 0, 100), (1, 0, 0), (0, 1, 1)])
        self.assertEqual(web.ahead([0, 101]), [101, 1])
        self.assertEqual(web.ahead([0, 100]), [100, 1])
        self.assertEqual(web.ahead([0, 99]), [100, 1])

    def test_times_below_nought(self):
        self.assertEqual(Web(1, [(0, 0, 3)]).ahead([-10]), [-7])
        self.assertEqual(Web(2, ring(2, 0)).ahead([-4, -9]), [-9, -4])
        web = Web(2, [(0, 0, 2), (0, 1, 1), (1, 0, 4), (1, 1, 0)])
        self.assertEqual(web.ahead([-7, -8]), [-4, -6])

    def test_equal_times(self):
        self.assertEqual(Web(2, ring(2) + [(0, 0, 1)]).ahead([6, 6]), [7, 7])
        self.assertEqual(Web(4, MIXED).ahead([-3] * 4), [9996, 6, 1, 4])

    def test_times_of_sixty_figures(self):
        web = Web(2, ring(2, 9999) + [(1, 1, 1)])
        self.assertEqual(web.ahead([SIXTY, -SIXTY]), [9999 - SIXTY, SIXTY + 9999])
        self.assertEqual(web.ahead([SIXTY - 9999, SIXTY]), [SIXTY + 9999, SIXTY + 1])
        self.assertEqual(web.ahead([SIXTY - 9997, SIXTY]), [SIXTY + 9999, SIXTY + 2])

    def test_as_the_point_tells_it_for_many_times(self):
        web = Web(4, MIXED)
        for seed in range(200):
            times = [(seed * step) % 97 - 40 for step in (31, 57, 83, 5)]
            self.assertEqual(web.ahead(times), next_times(web, times))

    def test_twelve_meetings_and_sixty_ways(self):
        ways = ring(12, 7) + [(at * 5 % 12, at * 7 % 12, at * 211) for at in range(48)]
        web = Web(12, ways)
        times = [at * at * 150 % 3001 for at in range(12)]
        self.assertEqual(web.ahead(times), next_times(web, times))


class TurnsTest(unittest.TestCase):
    def test_no_turn_tells_just_the_times(self):
        self.assertEqual(Web(3, ring(3)).turns([4, -5, SIXTY], 0), [[4, -5, SIXTY]])

    def test_one_turn(self):
        web = Web(3, ring(3, 2))
        self.assertEqual(web.turns([4, 0, 9], 1), [[4, 0, 9], [11, 6, 2]])

    def test_many_turns(self):
        web = Web(2, [(0, 1, 3), (1, 0, 4), (1, 1, 1)])
        told = web.turns([0, 0], 4)
        self.assertEqual(told, [[0, 0], [4, 3], [7, 7], [11, 10], [14, 14]])

    def test_each_row_is_the_next_times_of_the_one_before(self):
        web = Web(4, MIXED)
        told = web.turns([5, -6, 0, SIXTY], 300)
        self.assertEqual(len(told), 301)
        self.assertEqual(told[0], [5, -6, 0, SIXTY])
        for before, behind in zip(told, told[1:]):
            self.assertEqual(behind, next_times(web, before))

    def test_a_list_of_lists_is_told(self):
        told = Web(2, ring(2)).turns([0, 0], 2)
        self.assertIs(type(told), list)
        self.assertEqual([type(row) for row in told], [list, list, list])


class LengthTest(unittest.TestCase):
    def test_lists_that_are_too_short_too_long_and_empty(self):
        for many in (1, 2, 12):
            web = Web(many, ring(many))
            for length in [0, many - 1, many + 1, many + 40]:
                times = [0] * length
                self.assertIs(refusal(web.ahead, times), BadCount)
                for count in (0, 1, 5):
                    self.assertIs(refusal(web.turns, times, count), BadCount)

    def test_the_refusal_is_a_pace_error_and_a_value_error(self):
        web = Web(2, ring(2))
        for caught in (PaceError, ValueError):
            with self.assertRaises(caught):
                web.ahead([0])
            with self.assertRaises(caught):
                web.turns([0], 0)


if __name__ == "__main__":
    unittest.main()
