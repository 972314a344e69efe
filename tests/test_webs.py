"""Points 2 and 3: the webs that are taken, and those that are refused."""

import inspect
import itertools
import unittest

from meanpace import webs
from meanpace.errors import Apart, BadCount, BadDelay, NoMeeting, PaceError
from meanpace.webs import Web
from samples import MIXED, refusal, ring

FAR = [100, 10 ** 60, 10 ** 5000]


class InterfaceTest(unittest.TestCase):
    def test_the_names_and_the_arguments(self):
        listed = {
            "__init__": ["self", "many", "ways"],
            "into": ["self", "meeting"],
            "delay": ["self", "one", "other"],
            "ahead": ["self", "times"],
            "turns": ["self", "times", "count"],
            "turned": ["self"],
        }
        self.assertEqual(webs.Web.__module__, "meanpace.webs")
        for name, arguments in listed.items():
            with self.subTest(name):
                self.assertIn(name, vars(Web))
                told = inspect.signature(vars(Web)[name]).parameters
                self.assertEqual(list(told), arguments)

    def test_the_values_are_set_when_the_web_is_created(self):
        web = Web(2, ring(2))
        self.assertIn("many", vars(web))
        self.assertIn("ways", vars(web))


class TakenTest(unittest.TestCase):
    def taken(self, many, ways):
        web = Web(many, list(ways))
        self.assertEqual(web.many, many)
        self.assertIs(type(web.ways), list)
        self.assertEqual(web.ways, ways)
        for way in web.ways:
            self.assertIs(type(way), tuple)

    def test_no_more_than_a_ring_through_1_to_12_meetings(self):
        for many in range(1, 13):
            with self.subTest(many):
                self.taken(many, ring(many))

    def test_a_ring_told_in_another_order(self):
        self.taken(12, ring(12)[::-1])
        self.taken(5, [(3, 1, 0), (0, 3, 1), (4, 0, 2), (1, 2, 3), (2, 4, 4)])

    def test_a_ring_that_passes_a_meeting_twice(self):
        self.taken(3, [(0, 1, 1), (1, 0, 1), (1, 2, 1), (2, 1, 1)])

    def test_one_meeting_with_several_ways_to_itself(self):
        self.taken(1, [(0, 0, 3), (0, 0, 0), (0, 0, 3)])

    def test_several_ways_and_ways_to_itself_keep_their_order(self):
        self.taken(4, MIXED)

    def test_sixty_ways(self):
        self.taken(12, ring(12) * 5)
        self.taken(1, [(0, 0, at) for at in range(60)])

    def test_the_least_and_the_greatest_delay(self):
        self.taken(2, [(0, 1, 0), (1, 0, 9999)])
        self.taken(3, ring(3, 0))
        self.taken(3, ring(3, 9999))


class RefusedTest(unittest.TestCase):
    def refused(self, kind, many, ways):
        with self.subTest(kind=kind.__name__, meetings=max(-100, min(many, 100))):
            self.assertIs(refusal(Web, many, ways), kind)

    def test_a_wrong_number_of_meetings(self):
        for many in [0, 13, -1, -12, 14] + FAR + [-far for far in FAR]:
            self.refused(BadCount, many, ring(1))
            self.refused(BadCount, many, [])
        self.refused(BadCount, 13, ring(13))

    def test_too_many_ways(self):
        self.refused(BadCount, 12, ring(12) * 5 + [(0, 0, 1)])
        self.refused(BadCount, 1, [(0, 0, 1)] * 61)
        self.refused(BadCount, 1, [(0, 0, 1)] * 500)

    def test_an_end_that_is_no_meeting(self):
        for many in (1, 3, 12):
            for wrong in [-1, -many, many, many + 1] + FAR + [-far for far in FAR]:
                for way in [(wrong, 0, 1), (0, wrong, 1), (wrong, wrong, 1)]:
                    self.refused(NoMeeting, many, ring(many) + [way])
                    self.refused(NoMeeting, many, [way] + ring(many))

    def test_another_delay(self):
        for wrong in [-1, 10000, -9999] + [10 ** 60, 10 ** 5000, -(10 ** 5000)]:
            self.refused(BadDelay, 1, [(0, 0, wrong)])
            self.refused(BadDelay, 3, ring(3) + [(1, 2, wrong)])
            self.refused(BadDelay, 3, [(1, 2, wrong)] + ring(3))

    def test_no_ways(self):
        for many in range(1, 13):
            self.refused(Apart, many, [])

    def test_a_meeting_that_cannot_be_reached(self):
        for lone in range(3):
            one, other = [at for at in range(3) if at != lone]
            pair = [(one, other, 1), (other, one, 1)]
            self.refused(Apart, 3, pair)
            self.refused(Apart, 3, pair + [(lone, one, 1)])
            self.refused(Apart, 3, pair + [(lone, one, 1), (lone, lone, 1)])

    def test_a_meeting_from_which_none_can_be_reached(self):
        for lone in range(3):
            one, other = [at for at in range(3) if at != lone]
            pair = [(one, other, 1), (other, one, 1)]
            self.refused(Apart, 3, pair + [(one, lone, 1)])
            self.refused(Apart, 3, pair + [(one, lone, 1), (lone, lone, 1)])

    def test_a_ring_that_lacks_one_way(self):
        for many in range(2, 13):
            for at in range(many):
                whole = ring(many)
                self.refused(Apart, many, whole[:at] + whole[at + 1:])

    def test_two_rings_beside_each_other(self):
        beside = [(0, 1, 1), (1, 0, 1), (2, 3, 1), (3, 2, 1)]
        self.refused(Apart, 4, beside)
        self.refused(Apart, 4, beside + [(1, 2, 1)])
        self.refused(Apart, 4, beside + [(2, 1, 1)])
        self.assertIsNone(refusal(Web, 4, beside + [(1, 2, 1), (3, 0, 1)]))

    def test_all_webs_of_few_meetings(self):
        for many in (1, 2, 3):
            pairs = list(itertools.product(range(many), repeat=2))
            for taken in itertools.product([False, True], repeat=len(pairs)):
                ends = [pair for pair, held in zip(pairs, taken) if held]
                ways = [(one, other, 1) for one, other in ends]
                kind = None if of_one_piece(many, ends) else Apart
                with self.subTest(many=many, ways=ways):
                    self.assertIs(refusal(Web, many, ways), kind)

    def test_each_refusal_is_a_pace_error_and_a_value_error(self):
        faults = {
            BadCount: (0, []),
            NoMeeting: (1, [(0, 1, 1)]),
            BadDelay: (1, [(0, 0, -1)]),
            Apart: (1, []),
        }
        for kind, told in faults.items():
            for caught in (kind, PaceError, ValueError):
                with self.subTest(kind=kind.__name__, caught=caught.__name__):
                    with self.assertRaises(caught):
                        Web(*told)


def of_one_piece(many, ends):
    """Whether one comes from each meeting to each one, worked out by middles."""
    comes = set(ends)
    for middle, one, other in itertools.product(range(many), repeat=3):
        if (one, middle) in comes and (middle, other) in comes:
            comes.add((one, other))
    return len(comes) == many * many


class OrderTest(unittest.TestCase):
    def refused(self, kind, many, ways):
        self.assertIs(refusal(Web, many, ways), kind)

    def test_counts_before_ends(self):
        self.refused(BadCount, 0, [(0, 1, 1)])
        self.refused(BadCount, 13, ring(13) + [(13, -1, 1)])
        self.refused(BadCount, 2, [(0, 2, 1)] + [(0, 1, 1)] * 60)

    def test_counts_before_delays(self):
        self.refused(BadCount, 13, ring(13, 10000))
        self.refused(BadCount, 1, [(0, 0, -1)] * 61)

    def test_counts_before_pieces(self):
        self.refused(BadCount, 13, [])
        self.refused(BadCount, 2, [(0, 1, 1)] * 61)

    def test_ends_before_delays(self):
        self.refused(NoMeeting, 1, [(0, 1, -1), (0, 0, 1)])
        self.refused(NoMeeting, 2, [(0, 5, 1), (1, 0, 10000)])

    def test_ends_before_delays_further_ahead_in_the_list(self):
        self.refused(NoMeeting, 2, ring(2) + [(0, 1, 10000), (2, 0, 1)])
        self.refused(NoMeeting, 2, [(0, 1, -1), (1, 0, 1), (0, 1, 1), (0, -1, 1)])

    def test_ends_before_pieces(self):
        self.refused(NoMeeting, 3, [(0, 3, 1)])
        self.refused(NoMeeting, 2, [(0, 1, 1), (-1, 0, 1)])

    def test_delays_before_pieces(self):
        self.refused(BadDelay, 3, [(0, 1, 10000)])
        self.refused(BadDelay, 2, [(0, 1, 1), (0, 0, -1)])

    def test_all_at_once(self):
        self.refused(BadCount, -1, [(9, 9, -1)])
        self.refused(NoMeeting, 3, [(0, 1, -1), (0, 3, 1)])


if __name__ == "__main__":
    unittest.main()
