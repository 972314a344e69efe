"""Points 6 and 12: where times settle, and that they do so at the pace."""

import inspect
import unittest

from meanpace import settling
from meanpace.errors import BadCount, PaceError
from meanpace.paces import pace
from meanpace.settling import settled
from meanpace.webs import Web
from samples import MIXED, SIXTY, numbers, refusal, ring, some_webs


def by_turns(web, times, most):
    """The turn, the step and the gain, from turns gone one by one."""
    rows = web.turns(times, most)
    for turn in range(most + 1):
        for step in range(1, most - turn + 1):
            gains = {late - early for early, late in zip(rows[turn], rows[turn + step])}
            if len(gains) == 1:
                return (turn, step, gains.pop())
    return None


def come_again(web, times, step):
    """Whether the times come again so many turns ahead, with one number added."""
    late = times
    for _ in range(step):
        late = web.ahead(late)
    return len({late[at] - times[at] for at in range(web.many)}) == 1


def falling_behind(slow, delays):
    """A web in which a ring falls behind the meeting 0 bit by bit, up to a gap."""
    many = len(delays) + 1
    ends = [(at, at % (many - 1) + 1) for at in range(1, many)]
    ways = [(one, other, delay) for (one, other), delay in zip(ends, delays)]
    return Web(many, [(0, 0, slow), (0, 1, 0), (1, 0, 0)] + ways)


class SettlingCase(unittest.TestCase):
    def check(self, web, times, told):
        """The answer, and most just enough, one too few, and others."""
        turn, step, _ = told
        self.assertIs(type(settled(web, times, turn + step)), tuple)
        for most in (turn + step, turn + step + 1, 10 ** 9, 10 ** 60):
            self.assertEqual(settled(web, times, most), told)
        for most in {turn + step - 1, turn, step - 1, 1, 0}:
            if most < turn + step:
                self.assertIsNone(settled(web, times, most))


class SettledTest(SettlingCase):
    def test_one_meeting_settles_at_once(self):
        for delay in (0, 3, 9999):
            for time in (0, 5, -8, SIXTY, -SIXTY):
                self.check(Web(1, [(0, 0, delay)]), [time], (0, 1, delay))

    def test_a_ring_with_equal_times_settles_at_once(self):
        for many in range(1, 13):
            for time in (0, -4, SIXTY):
                self.check(Web(many, ring(many, 6)), [time] * many, (0, 1, 6))

    def test_a_ring_with_other_times_has_greater_steps(self):
        self.check(Web(2, ring(2, 3)), [0, 1], (0, 2, 6))
        self.check(Web(3, ring(3, 3)), [0, 0, 1], (0, 3, 9))
        self.check(Web(4, ring(4, 3)), [7, 2, 7, 2], (0, 2, 6))
        self.check(Web(4, ring(4, 3)), [7, 2, 7, 1], (0, 4, 12))
        for many in range(2, 13):
            times = [0] * (many - 1) + [-1]
            self.check(Web(many, ring(many, 2)), times, (0, many, 2 * many))

    def test_the_gain_is_not_always_the_step_times_a_whole_number(self):
        web = Web(2, [(0, 1, 3), (1, 0, 4)])
        self.check(web, [0, 0], (0, 2, 7))
        self.assertEqual(by_turns(web, [0, 0], 2), (0, 2, 7))

    def test_delays_that_are_all_nought(self):
        self.check(Web(3, ring(3, 0)), [4, 4, 4], (0, 1, 0))
        self.check(Web(3, ring(3, 0)), [4, 4, 5], (0, 3, 0))
        self.check(Web(3, ring(3, 0) + [(0, 0, 0)]), [1, 2, 3], (3, 1, 0))

    def test_times_that_settle_after_some_turns(self):
        web = Web(2, [(0, 0, 4), (0, 1, 1), (1, 0, 1), (1, 1, 3)])
        self.check(web, [0, 0], (3, 1, 4))
        self.check(web, [0, -3], (0, 1, 4))
        self.check(web, [3, 0], (0, 1, 4))
        self.check(web, [0, 9], (6, 1, 4))

    def test_the_mixed_web(self):
        web = Web(4, MIXED)
        for times in ([0, 0, 0, 0], [1, -9, 77, 3], [9999, 0, 0, -5], [-5] * 4):
            self.check(web, times, by_turns(web, times, 60))

    def test_a_step_of_sixty(self):
        # Rings of three, four and five, and ways between them that hold up none.
        ways = ring(3)
        ways += [(one + 3, other + 3, 1) for one, other, _ in ring(4)]
        ways += [(one + 7, other + 7, 1) for one, other, _ in ring(5)]
        web = Web(12, ways + [(0, 3, 0), (3, 7, 0), (7, 0, 0)])
        times = [1 if at in (0, 3, 7) else 0 for at in range(12)]
        self.assertEqual(by_turns(web, times, 60), (0, 60, 60))
        self.check(web, times, (0, 60, 60))

    def test_times_below_nought(self):
        web = Web(2, [(0, 0, 4), (0, 1, 1), (1, 0, 1), (1, 1, 3)])
        self.check(web, [-100, -100], (3, 1, 4))
        self.check(web, [-100, -103], (0, 1, 4))
        self.check(Web(2, ring(2, 3)), [-7, -5], (0, 2, 6))

    def test_times_of_sixty_figures(self):
        self.check(Web(2, ring(2)), [SIXTY, -SIXTY], (0, 2, 2))
        self.check(Web(2, ring(2)), [SIXTY, SIXTY - 1], (0, 2, 2))
        self.check(Web(12, ring(12)), [SIXTY] + [-SIXTY] * 11, (0, 12, 12))
        for seed in range(20):
            web = Web(4, MIXED)
            times = [(-1) ** at * (SIXTY - at) for at in numbers(seed, 4, 10 ** 18)]
            self.check(web, times, by_turns(web, times, 60))

    def test_against_turns_gone_one_by_one(self):
        for limit in (1, 3, 8):
            for seed, web in enumerate(some_webs(limit)):
                for spread in (1, 2, 40):
                    times = [time - 20 for time in numbers(seed, web.many, spread)]
                    for most in (0, 1, 2, 5, 30, 60):
                        told = by_turns(web, times, most)
                        self.assertEqual(settled(web, times, most), told)

    def test_the_same_number_added_to_each_time(self):
        for web in some_webs(20):
            times = numbers(web.many, web.many, 30)
            told = settled(web, times, 10 ** 9)
            for more in (-SIXTY, -1, 1, 77, SIXTY):
                added = [time + more for time in times]
                self.assertEqual(settled(web, added, 10 ** 9), told)


class LongTest(SettlingCase):
    """Times that take many turns to settle."""

    def check_long(self, web, times, least):
        turn, step, gain = settled(web, times, 10 ** 60)
        self.assertGreater(turn, least)
        for _ in range(turn - 1):
            times = web.ahead(times)
        self.assertFalse(any(come_again(web, times, step) for step in range(1, 61)))
        times = web.ahead(times)
        self.assertTrue(come_again(web, times, step))
        self.assertFalse(any(come_again(web, times, less) for less in range(1, step)))
        self.assertEqual(web.turns(times, step)[-1][0] - times[0], gain)

    def test_nearly_ten_thousand_turns(self):
        web = falling_behind(9999, [9998])
        self.check(web, [0, 0], (9999, 1, 9999))
        self.check(web, [50, 0], (9949, 1, 9999))

    def test_each_turn_behind_powers_of_two(self):
        for turn in [0, 1, 2, 3, 4, 5, 7, 8, 9, 15, 16, 17, 63, 64, 65, 1023, 1024]:
            self.check(falling_behind(9999, [9998]), [9999 - turn, 0], (turn, 1, 9999))

    def test_more_turns_against_turns_gone_one_by_one(self):
        self.check_long(falling_behind(9999, [9999, 9998]), [0, 0, 0], 15000)
        self.check_long(falling_behind(9999, [9999, 9998, 9999]), [0, 7, -3, 2], 20000)

    def test_hundreds_of_thousands_of_turns(self):
        # The ring from 0 to 4 has a mean of 45004 over 5, greater by a twentieth
        # than 36003 over 4, the mean of the ring from 5 to 8. From the one to the
        # other lead four ways of nought, so that it falls far behind.
        fast = [(0, 1, 9004)] + [(at, (at + 1) % 5, 9000) for at in range(1, 5)]
        late = [(5, 6, 9003), (6, 7, 9000), (7, 8, 9000), (8, 5, 9000)]
        links = [(0, 9, 0), (9, 10, 0), (10, 11, 0), (11, 5, 0), (5, 0, 0)]
        web = Web(12, fast + late + links)
        turn, step, gain = settled(web, [0] * 12, 10 ** 60)
        self.assertGreater(turn, 500000)
        self.assertEqual((step, gain), (5, 45004))
        self.assertEqual(settled(web, [0] * 12, turn + 5), (turn, 5, 45004))
        self.assertIsNone(settled(web, [0] * 12, turn + 4))
        later = web.turns([0] * 12, 1000)[-1]
        self.assertEqual(settled(web, later, 10 ** 60), (turn - 1000, 5, 45004))


class PaceOfTimesTest(unittest.TestCase):
    """Point 12: the gain is to the step as the pace's number to its divisor."""

    def test_from_several_beginnings(self):
        for limit in (1, 3, 50, 10000):
            for web in some_webs(limit):
                number, divisor, _, _ = pace(web)
                for seed, spread in enumerate((1, 10, 10000, 10 ** 18)):
                    times = numbers(seed, web.many, spread)
                    _, step, gain = settled(web, times, 10 ** 60)
                    self.assertEqual(gain * divisor, step * number)

    def test_from_times_of_sixty_figures(self):
        for web in some_webs():
            number, divisor, _, _ = pace(web)
            for first in range(web.many):
                times = [-SIXTY] * web.many
                times[first] = SIXTY
                _, step, gain = settled(web, times, 10 ** 60)
                self.assertEqual(gain * divisor, step * number)

    def test_a_web_turned_about_gains_as_much(self):
        for web in some_webs(100):
            times = numbers(web.many, web.many, 100)
            _, step, gain = settled(web, times, 10 ** 60)
            _, back, lost = settled(web.turned(), times, 10 ** 60)
            self.assertEqual(gain * back, lost * step)


class RefusedTest(unittest.TestCase):
    def test_a_list_of_another_length(self):
        for many in (1, 2, 12):
            web = Web(many, ring(many))
            for length in (0, many - 1, many + 1, many + 40):
                for most in (0, 1, 100):
                    if length != many:
                        self.assertIs(refusal(settled, web, [0] * length, most), BadCount)
        for caught in (PaceError, ValueError):
            with self.assertRaises(caught):
                settled(Web(2, ring(2)), [0], 0)


class InterfaceTest(unittest.TestCase):
    def test_the_names_and_the_arguments(self):
        self.assertEqual(settling.settled.__module__, "meanpace.settling")
        told = inspect.signature(settling.settled).parameters
        self.assertEqual(list(told), ["web", "times", "most"])


if __name__ == "__main__":
    unittest.main()
