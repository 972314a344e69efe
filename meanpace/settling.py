"""Settling: from which turn on the times come again, and after which step."""

# The rings with the greatest mean fall into groups that have no meeting in
# common, and the step divides the least common multiple of numbers, one for
# each group, none of them greater than its group. For twelve meetings that is
# at most 60, by groups of three, four and five.
MOST_STEP = 60


def _again(web, times):
    """The step and the gain of times that have settled; None where they have not."""
    late = times
    for step in range(1, MOST_STEP + 1):
        late = web.ahead(late)
        gain = late[0] - times[0]
        if late == [time + gain for time in times]:
            return (step, gain)
    return None


def _one_turn(web):
    """For each meeting a dict: from which meetings, and with which greatest delay."""
    return [
        {one: web.delay(one, other) for one, _ in web.into(other)}
        for other in range(web.many)
    ]


def _twice(table):
    """The greatest delays over twice as many turns as those of the table."""
    found = []
    for row in table:
        sums = {}
        for middle, late in row.items():
            for one, early in table[middle].items():
                both = early + late
                if one not in sums or sums[one] < both:
                    sums[one] = both
        found.append(sums)
    return found


def _over(table, times):
    """The times behind as many turns as those of the table."""
    return [max([times[one] + delay for one, delay in row.items()]) for row in table]


def _tables(web, times):
    """Tables over 1, 2, 4 .. turns, up to the first one that settles the times."""
    tables = [_one_turn(web)]
    while _again(web, _over(tables[-1], times)) is None:
        tables.append(_twice(tables[-1]))
    return tables


def _begin(web, times):
    """The least count of turns behind which the times have settled, and the times then."""
    if _again(web, times) is not None:
        return (0, times)
    # Times may take hundreds of thousands of turns to settle: not gone one by one. Once
    # they have settled they stay so: go by the greatest powers of two that do not
    # settle them, then the one turn that does.
    tables = _tables(web, times)
    turn = 0
    for at in reversed(range(len(tables))):
        late = _over(tables[at], times)
        if _again(web, late) is None:
            turn += 1 << at
            times = late
    return (turn + 1, web.ahead(times))


def settled(web, times, most):
    """The turn, the step and the gain, if turn and step are no more than most."""
    # The web refuses a list of a wrong length, since one turn at least is gone
    # whatever most is.
    turn, then = _begin(web, times)
    step, gain = _again(web, then)
    return (turn, step, gain) if turn + step <= most else None
