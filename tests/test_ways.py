"""Points 2 and 4: the ways into a meeting, and the delay between two."""

import unittest

from meanpace.errors import NoMeeting, PaceError
from meanpace.webs import Web
from samples import MIXED, refusal, ring

NONE_OF_FOUR = [-1, -4, 4, 5, 10 ** 60, 10 ** 5000, -(10 ** 5000)]


class IntoTest(unittest.TestCase):
    def test_the_pairs_stand_in_the_order_of_the_ways(self):
        web = Web(4, MIXED)
        self.assertEqual(web.into(0), [(3, 9999)])
        self.assertEqual(web.into(1), [(0, 5), (0, 9), (2, 9), (0, 2), (3, 0)])
        self.assertEqual(web.into(2), [(2, 4), (1, 0), (2, 3)])
        self.assertEqual(web.into(3), [(2, 7)])

    def test_the_order_is_the_one_of_the_list_turned_round(self):
        web = Web(4, MIXED[::-1])
        self.assertEqual(web.into(1), [(3, 0), (0, 2), (2, 9), (0, 9), (0, 5)])

    def test_equal_ways_are_told_as_often_as_they_are(self):
        web = Web(1, [(0, 0, 3), (0, 0, 3), (0, 0, 1)])
        self.assertEqual(web.into(0), [(0, 3), (0, 3), (0, 1)])

    def test_a_ring_through_twelve_meetings(self):
        web = Web(12, ring(12, 9999))
        for meeting in range(12):
            self.assertEqual(web.into(meeting), [((meeting - 1) % 12, 9999)])

    def test_a_list_of_tuples_is_told(self):
        told = Web(4, MIXED).into(1)
        self.assertIs(type(told), list)
        for pair in told:
            self.assertIs(type(pair), tuple)

    def test_what_is_no_meeting_is_refused(self):
        web = Web(4, MIXED)
        for wrong in NONE_OF_FOUR:
            self.assertIs(refusal(web.into, wrong), NoMeeting)
        self.assertIs(refusal(Web(1, ring(1)).into, 1), NoMeeting)
        for caught in (PaceError, ValueError):
            with self.assertRaises(caught):
                web.into(4)


class DelayTest(unittest.TestCase):
    def test_each_delay_of_a_web(self):
        web = Web(4, MIXED)
        rows = [[web.delay(one, other) for other in range(4)] for one in range(4)]
        self.assertEqual(rows, [
            [None, 9, None, None],
            [None, None, 0, None],
            [None, 9, 4, 7],
            [9999, 0, None, None],
        ])

    def test_the_greatest_of_several_wherever_it_stands(self):
        for delays in ([1, 2, 3], [3, 1, 2], [1, 3, 2], [3, 3, 0]):
            web = Web(2, [(0, 1, delay) for delay in delays] + [(1, 0, 8)])
            self.assertEqual(web.delay(0, 1), 3)
            self.assertEqual(web.delay(1, 0), 8)

    def test_no_straight_way_is_none_though_one_comes_there(self):
        web = Web(3, ring(3))
        self.assertIsNone(web.delay(0, 2))
        self.assertIsNone(web.delay(1, 0))
        self.assertIsNone(web.delay(1, 1))

    def test_a_delay_of_nought_is_not_none(self):
        self.assertEqual(Web(2, ring(2, 0)).delay(0, 1), 0)
        self.assertEqual(Web(1, ring(1, 0)).delay(0, 0), 0)

    def test_from_a_meeting_to_itself(self):
        web = Web(2, ring(2) + [(1, 1, 6), (1, 1, 7), (1, 1, 5)])
        self.assertEqual(web.delay(1, 1), 7)
        self.assertIsNone(web.delay(0, 0))

    def test_what_is_no_meeting_is_refused_at_either_place(self):
        web = Web(4, MIXED)
        for wrong in NONE_OF_FOUR:
            self.assertIs(refusal(web.delay, wrong, 0), NoMeeting)
            self.assertIs(refusal(web.delay, 0, wrong), NoMeeting)
            self.assertIs(refusal(web.delay, wrong, wrong), NoMeeting)
        for caught in (PaceError, ValueError):
            with self.assertRaises(caught):
                web.delay(4, 0)
            with self.assertRaises(caught):
                web.delay(0, 4)


if __name__ == "__main__":
    unittest.main()
