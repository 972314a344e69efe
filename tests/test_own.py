"""Point 1: what is handed in stays as it was, and what is told is the asker's own."""

import unittest

from meanpace.errors import PaceError
from meanpace.webs import Web
from samples import MIXED, ring


def told_of(web):
    """All that a web of four meetings tells, but for the list that is read."""
    return (
        web.many,
        [web.into(meeting) for meeting in range(4)],
        [[web.delay(one, other) for other in range(4)] for one in range(4)],
        web.ahead([1, 2, 3, 4]),
        web.turns([1, 2, 3, 4], 3),
        list(web.turned().ways),
    )


class HandedInTest(unittest.TestCase):
    def test_the_ways_are_left_as_they_were(self):
        ways = list(MIXED)
        told_of(Web(4, ways))
        self.assertEqual(ways, MIXED)

    def test_ways_that_are_refused_are_left_as_they_were(self):
        for ways in ([(0, 0, 1)] * 61, [(0, 1, 1)], [(0, 0, -1)], []):
            before = list(ways)
            with self.assertRaises(PaceError):
                Web(1, ways)
            self.assertEqual(ways, before)

    def test_changing_the_ways_later_changes_nothing(self):
        ways = list(MIXED)
        web = Web(4, ways)
        before = told_of(web)
        ways[0] = (0, 3, 77)
        ways.append((1, 1, 9))
        self.assertEqual(web.ways, MIXED)
        self.assertEqual(told_of(web), before)
        ways.clear()
        self.assertEqual(web.ways, MIXED)
        self.assertEqual(told_of(web), before)

    def test_the_times_are_left_as_they_were(self):
        web = Web(4, MIXED)
        times = [4, -3, 2, 1]
        web.ahead(times)
        web.turns(times, 0)
        web.turns(times, 5)
        self.assertEqual(times, [4, -3, 2, 1])

    def test_changing_the_times_later_changes_nothing_that_was_told(self):
        web = Web(2, ring(2))
        times = [0, 5]
        ahead = web.ahead(times)
        turns = web.turns(times, 1)
        times[0] = 99
        times.append(1)
        self.assertEqual(ahead, [6, 1])
        self.assertEqual(turns, [[0, 5], [6, 1]])


class ToldTest(unittest.TestCase):
    def setUp(self):
        self.web = Web(4, MIXED)
        self.before = told_of(self.web)

    def test_changing_what_into_told(self):
        for meeting in range(4):
            told = self.web.into(meeting)
            told[0] = (1, 1)
            told.append((2, 2))
        self.assertEqual(told_of(self.web), self.before)

    def test_changing_what_ahead_told(self):
        told = self.web.ahead([1, 2, 3, 4])
        told[0] = 0
        told.clear()
        self.assertEqual(told_of(self.web), self.before)

    def test_changing_what_turns_told(self):
        told = self.web.turns([1, 2, 3, 4], 3)
        for row in told:
            row[0] = 0
            row.append(5)
        told.clear()
        self.assertEqual(told_of(self.web), self.before)

    def test_the_rows_of_turns_are_lists_of_their_own(self):
        for count in (0, 1, 4):
            times = [1, 2, 3, 4]
            told = self.web.turns(times, count)
            for at in range(len(told)):
                rest = [list(row) for k, row in enumerate(told) if k != at]
                told[at].append(7)
                left = [row for k, row in enumerate(told) if k != at]
                self.assertEqual(left, rest)
            self.assertEqual(times, [1, 2, 3, 4])

    def test_changing_the_web_turned_about(self):
        turned = self.web.turned()
        turned.ways.clear()
        turned.many = 1
        self.assertEqual(told_of(self.web), self.before)
        self.assertEqual(self.web.ways, MIXED)

    def test_the_web_turned_about_outlasts_what_is_done_to_the_web(self):
        turned = self.web.turned()
        before = told_of(turned)
        self.web.ways.clear()
        self.assertEqual(told_of(turned), before)

    def test_what_the_methods_tell_does_not_hang_on_the_list_that_is_read(self):
        self.web.ways[0] = (3, 3, 9999)
        self.assertEqual(told_of(self.web), self.before)
        self.web.ways.clear()
        self.assertEqual(told_of(self.web), self.before)

    def test_nothing_asked_later_changes_what_was_told(self):
        ways = self.web.ways
        told_of(self.web)
        fresh = told_of(Web(4, MIXED))
        self.assertEqual(self.before, fresh)
        self.assertEqual(ways, MIXED)

    def test_two_webs_of_one_list_stand_apart(self):
        ways = list(MIXED)
        one, other = Web(4, ways), Web(4, ways)
        one.ways.clear()
        self.assertEqual(other.ways, MIXED)
        self.assertEqual(ways, MIXED)


if __name__ == "__main__":
    unittest.main()
