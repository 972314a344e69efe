"""Point 13, its first sentence: the web turned about."""

import unittest

from meanpace.webs import Web
from samples import MIXED, ring


class TurnedTest(unittest.TestCase):
    def test_each_way_leads_from_its_end_to_its_beginning_in_the_same_order(self):
        turned = Web(4, MIXED).turned()
        self.assertIs(type(turned), Web)
        self.assertEqual(turned.many, 4)
        self.assertEqual(turned.ways, [
            (1, 0, 5),
            (2, 2, 4),
            (2, 1, 0),
            (1, 0, 9),
            (3, 2, 7),
            (0, 3, 9999),
            (1, 2, 9),
            (1, 0, 2),
            (2, 2, 3),
            (1, 3, 0),
        ])

    def test_turned_about_twice_it_is_as_before(self):
        for many, ways in [(4, MIXED), (1, ring(1)), (12, ring(12) * 5)]:
            twice = Web(many, ways).turned().turned()
            self.assertEqual(twice.many, many)
            self.assertEqual(twice.ways, ways)

    def test_what_is_told_of_it_is_turned_about_too(self):
        web = Web(4, MIXED)
        turned = web.turned()
        for one in range(4):
            for other in range(4):
                self.assertEqual(turned.delay(one, other), web.delay(other, one))
        self.assertEqual(turned.into(2), [(2, 4), (3, 7), (1, 9), (2, 3)])
        self.assertEqual(Web(3, ring(3, 5)).turned().ahead([1, 2, 3]), [7, 8, 6])

    def test_the_web_itself_stays_as_it_was(self):
        web = Web(4, MIXED)
        web.turned()
        self.assertEqual(web.ways, MIXED)
        self.assertEqual(web.into(0), [(3, 9999)])


if __name__ == "__main__":
    unittest.main()
