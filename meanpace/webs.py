"""Webs: meetings, the ways between them, and the turns that their times take."""

from meanpace.errors import Apart, BadCount, BadDelay, NoMeeting

MOST_MEETINGS = 12
MOST_WAYS = 60
MOST_DELAY = 9999

# No message tells a number that was handed in: Python refuses to write out a
# very long one, and that would be raised in the place of the refusal.


def _refuse_meeting(many, meeting):
    """Refuse what is no meeting of so many."""
    if not 0 <= meeting < many:
        raise NoMeeting("there is no such meeting")


def _reached(ways, start):
    """The meetings to which one comes from this one, by one way at least."""
    found = []
    waiting = [start]
    while waiting:
        at = waiting.pop()
        for one, other, _ in ways:
            if one == at and other not in found:
                found.append(other)
                waiting.append(other)
    return found


def _refuse_counts(many, ways):
    """Refuse a wrong number of meetings, and too many ways."""
    if not 1 <= many <= MOST_MEETINGS:
        raise BadCount(f"a web has 1 to {MOST_MEETINGS} meetings")
    if len(ways) > MOST_WAYS:
        raise BadCount(f"a web has at most {MOST_WAYS} ways")


def _refuse_ways(many, ways):
    """Refuse wrong ends, then wrong delays."""
    # Two loops, since a wrong end comes before a wrong delay further ahead.
    for one, other, _ in ways:
        _refuse_meeting(many, one)
        _refuse_meeting(many, other)
    for _, _, delay in ways:
        if not 0 <= delay <= MOST_DELAY:
            raise BadDelay(f"a delay is 0 to {MOST_DELAY}")


def _refuse_apart(many, ways):
    """Refuse what is not of one piece."""
    for start in range(many):
        if len(_reached(ways, start)) < many:
            raise Apart("from some meeting one does not come to each one")


class Web:
    """So many meetings, told by whole numbers from nought on, and their ways."""

    def __init__(self, many, ways):
        _refuse_counts(many, ways)
        _refuse_ways(many, ways)
        _refuse_apart(many, ways)
        self.many = many
        self.ways = list(ways)
        # The methods read this copy, so that they hold whatever an asker does
        # to the list that can be read.
        self._ways = tuple(ways)

    def into(self, meeting):
        """The pairs (from, delay) of all ways that lead to the meeting, in order."""
        _refuse_meeting(self.many, meeting)
        return [(one, delay) for one, other, delay in self._ways if other == meeting]

    def delay(self, one, other):
        """The greatest delay of a way straight from one to the other, or None."""
        _refuse_meeting(self.many, one)
        pairs = self.into(other)
        return max([delay for source, delay in pairs if source == one], default=None)

    def ahead(self, times):
        """The next times."""
        self._refuse_times(times)
        found = [None] * self.many
        for one, other, delay in self._ways:
            then = times[one] + delay
            if found[other] is None or found[other] < then:
                found[other] = then
        return found

    def turns(self, times, count):
        """The times handed in, and the times behind each of so many turns."""
        # Also where no turn is gone, a list of a wrong length is refused.
        self._refuse_times(times)
        rows = [list(times)]
        for _ in range(count):
            rows.append(self.ahead(rows[-1]))
        return rows

    def turned(self):
        """The web with each way from its end to its beginning, in the same order."""
        return Web(self.many, [(other, one, delay) for one, other, delay in self._ways])

    def _refuse_times(self, times):
        """Refuse a list of other than so many times."""
        if len(times) != self.many:
            raise BadCount("there is one time for each meeting")
