"""Point 1: what is handed in stays as it was, and what is told is the asker's own."""

import unittest

from meanpace.errors import PaceError
from meanpace.paces import pace, slower
from meanpace.rings import mean
from meanpace.settling import settled
from meanpace.webs import Web
from samples import MIXED, ring

# The first has a ring that is slower in MIXED and in MIXED turned about, the
# second has a start.
LOW, HIGH = (9, 2), (6000, 2)


def told_of(web):
    """All that is told of a web of four meetings, but for the list that is read."""
    return told_by_web(web) + told_by_functions(web)


def told_by_functions(web):
    """What the functions tell of MIXED, or of MIXED turned about."""
    through = [0, 1, 2, 3] if web.delay(0, 1) is not None else [3, 2, 1, 0]
    return (
        mean(web, through),
        slower(web, *LOW),
        slower(web, *HIGH),
        pace(web),
        settled(web, [1, 2, 3, 4], 1000),
        settled(web, [1, 2, 3, 4], 2),
    )


def told_by_web(web):
    """What the methods of a web tell."""
    return (
        web.many,
        [web.into(meeting) for meeting in range(4)],
        [[web.delay(one, other) for other in range(4)] for one in range(4)],
        web.ahead([1, 2, 3, 4]),
        web.turns([1, 2, 3, 4], 3),
        list(web.turned().ways),
    )


class HandedInTest(unittest.TestCase):
    def test_the_ways_are_left_as_they_were(self):
        ways = list(MIXED)
        told_of(Web(4, ways))
        self.assertEqual(ways, MIXED)

    def test_ways_that_are_refused_are_left_as_they_were(self):
        for ways in ([(0, 0, 1)] * 61, [(0, 1, 1)], [(0, 0, -1)], []):
            before = list(ways)
            with self.assertRaises(PaceError):
                Web(1, ways)
            self.assertEqual(ways, before)

    def test_changing_the_ways_later_changes_nothing(self):
        ways = list(MIXED)
        web = Web(4, ways)
        before = told_of(web)
        ways[0] = (0, 3, 77)
        ways.append((1, 1, 9))
        self.assertEqual(web.ways, MIXED)
        self.assertEqual(told_of(web), before)
        ways.clear()
        self.assertEqual(web.ways, MIXED)
        self.assertEqual(told_of(web), before)

    def test_the_times_are_left_as_they_were(self):
        web = Web(4, MIXED)
        times = [4, -3, 2, 1]
        web.ahead(times)
        web.turns(times, 0)
        web.turns(times, 5)
        self.assertEqual(times, [4, -3, 2, 1])

    def test_changing_the_times_later_changes_nothing_that_was_told(self):
        web = Web(2, ring(2))
        times = [0, 5]
        ahead = web.ahead(times)
        turns = web.turns(times, 1)
        times[0] = 99
        times.append(1)
        self.assertEqual(ahead, [6, 1])
        self.assertEqual(turns, [[0, 5], [6, 1]])


class HandedToFunctionsTest(unittest.TestCase):
    """The functions leave the webs and the lists as they were."""

    def setUp(self):
        self.web = Web(4, MIXED)
        self.values = {name: repr(kept) for name, kept in vars(self.web).items()}
        self.before = told_by_web(self.web)

    def check_web(self):
        values = {name: repr(kept) for name, kept in vars(self.web).items()}
        self.assertEqual(values, self.values)
        self.assertEqual(self.web.ways, MIXED)
        self.assertEqual(told_by_web(self.web), self.before)

    def test_the_web(self):
        told_by_functions(self.web)
        self.check_web()

    def test_a_ring(self):
        for meetings in ([2, 3, 0, 1], [2]):
            before = list(meetings)
            mean(self.web, meetings)
            self.assertEqual(meetings, before)
        self.check_web()

    def test_a_list_that_is_refused(self):
        for meetings in ([], [2, 2], [1, 0], [3, 4], [4, 3, 3]):
            before = list(meetings)
            with self.assertRaises(PaceError):
                mean(self.web, meetings)
            self.assertEqual(meetings, before)
        for times in ([], [1], [3, 2, 1, 2, 3]):
            before = list(times)
            with self.assertRaises(PaceError):
                settled(self.web, times, 9)
            self.assertEqual(times, before)
        with self.assertRaises(PaceError):
            slower(self.web, -1, 1)
        self.check_web()

    def test_times(self):
        for times in ([0, 0, 0, 0], [4, -3, 2, 1], [10 ** 59, 0, -5, 3]):
            before = list(times)
            for most in (0, 1, 30, 10 ** 9):
                settled(self.web, times, most)
                self.assertEqual(times, before)
        self.check_web()

    def test_lists_changed_later_change_nothing(self):
        meetings, times = [2, 3, 0, 1], [4, -3, 2, 1]
        before = (mean(self.web, meetings), settled(self.web, times, 100))
        meetings.clear()
        times.clear()
        after = (mean(self.web, [2, 3, 0, 1]), settled(self.web, [4, -3, 2, 1], 100))
        self.assertEqual(after, before)
        self.check_web()


class ToldTest(unittest.TestCase):
    def setUp(self):
        self.web = Web(4, MIXED)
        self.before = told_of(self.web)

    def test_changing_what_into_told(self):
        for meeting in range(4):
            told = self.web.into(meeting)
            told[0] = (1, 1)
            told.append((2, 2))
        self.assertEqual(told_of(self.web), self.before)

    def test_changing_what_ahead_told(self):
        told = self.web.ahead([1, 2, 3, 4])
        told[0] = 0
        told.clear()
        self.assertEqual(told_of(self.web), self.before)

    def test_changing_what_turns_told(self):
        told = self.web.turns([1, 2, 3, 4], 3)
        for row in told:
            row[0] = 0
            row.append(5)
        told.clear()
        self.assertEqual(told_of(self.web), self.before)

    def test_the_rows_of_turns_are_lists_of_their_own(self):
        for count in (0, 1, 4):
            times = [1, 2, 3, 4]
            told = self.web.turns(times, count)
            for at in range(len(told)):
                rest = [list(row) for k, row in enumerate(told) if k != at]
                told[at].append(7)
                left = [row for k, row in enumerate(told) if k != at]
                self.assertEqual(left, rest)
            self.assertEqual(times, [1, 2, 3, 4])

    def test_changing_the_web_turned_about(self):
        turned = self.web.turned()
        turned.ways.clear()
        turned.many = 1
        self.assertEqual(told_of(self.web), self.before)
        self.assertEqual(self.web.ways, MIXED)

    def test_the_web_turned_about_outlasts_what_is_done_to_the_web(self):
        turned = self.web.turned()
        before = told_of(turned)
        self.web.ways.clear()
        self.assertEqual(told_of(turned), before)

    def test_what_the_methods_tell_does_not_hang_on_the_list_that_is_read(self):
        self.web.ways[0] = (3, 3, 9999)
        self.assertEqual(told_of(self.web), self.before)
        self.web.ways.clear()
        self.assertEqual(told_of(self.web), self.before)

    def test_nothing_asked_later_changes_what_was_told(self):
        ways = self.web.ways
        told_of(self.web)
        fresh = told_of(Web(4, MIXED))
        self.assertEqual(self.before, fresh)
        self.assertEqual(ways, MIXED)

    def test_changing_the_ring_that_slower_told(self):
        told, none = slower(self.web, *LOW)
        self.assertIsNone(none)
        told[0] = 9
        self.assertEqual(told_of(self.web), self.before)
        told.clear()
        self.assertEqual(told_of(self.web), self.before)

    def test_changing_the_start_that_slower_told(self):
        none, told = slower(self.web, *HIGH)
        self.assertIsNone(none)
        told[0] = 10 ** 9
        self.assertEqual(told_of(self.web), self.before)
        told.clear()
        self.assertEqual(told_of(self.web), self.before)

    def test_changing_what_pace_told(self):
        for at in (2, 3):
            told = pace(self.web)[at]
            told[0] += 5
            told.append(1)
            self.assertEqual(told_of(self.web), self.before)
            told.clear()
            self.assertEqual(told_of(self.web), self.before)

    def test_what_was_told_outlasts_what_is_asked_and_done_later(self):
        told = [slower(self.web, *LOW), slower(self.web, *HIGH), pace(self.web)]
        kept = repr(told)
        told_of(self.web)
        told_of(self.web.turned())
        for part in slower(self.web, *LOW) + slower(self.web, *HIGH) + pace(self.web):
            if isinstance(part, list):
                part.clear()
        self.web.ways.clear()
        told_of(self.web)
        self.assertEqual(repr(told), kept)

    def test_two_webs_of_one_list_stand_apart(self):
        ways = list(MIXED)
        one, other = Web(4, ways), Web(4, ways)
        one.ways.clear()
        self.assertEqual(other.ways, MIXED)
        self.assertEqual(ways, MIXED)


if __name__ == "__main__":
    unittest.main()
