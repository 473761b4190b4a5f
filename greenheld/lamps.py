"""Which movements a plan shows green, tick by tick, and what must never be shown."""

from greenheld.stages import clearings, stages
from greenheld.towns import clearance, do_cross


def greens(crossing, plan):
    """The triples (movement, begin, end) of all greens of the plan, ascending."""
    members, cleared = stages(crossing), clearings(crossing)
    found = []
    begin = 0
    for s, ticks in plan:
        found.extend([(i, begin, begin + ticks) for i in members[s]])
        begin += ticks + cleared[s]
    return tuple(sorted(found))


def green_in(found, tick):
    """The movements of those greens that this tick is in."""
    return tuple([i for i, begin, end in found if begin <= tick < end])


def lamps_at(crossing, plan, tick):
    """The movements that the plan shows green in this tick."""
    return green_in(greens(crossing, plan), tick)


def lamp_rows(crossing, plans):
    """The lamps of one plan behind another, tick by tick."""
    rows = []
    for plan in plans:
        found = greens(crossing, plan)
        rows.extend([green_in(found, tick) for tick in range(crossing[2])])
    return rows


def first_crossed(crossing, row):
    """The least pair in this row that crosses, None if there is none."""
    for i in row:
        for j in row:
            if i < j and do_cross(crossing, i, j):
                return (i, j)
    return None


def first_early(crossing, last, tick, begun):
    """The least (i, j) such that j, of those begun in this tick, did not wait for i; None if there is none."""
    for i in sorted(last):
        for j in begun:
            if tick - last[i] - 1 < clearance(crossing, i, j):
                return (i, j)
    return None


def judge_lamps(crossing, rows):
    """None if no crossed ones are green together, or too soon behind one another; else the first fault."""
    for tick, row in enumerate(rows):
        pair = first_crossed(crossing, row)
        if pair is not None:
            return ("crossed", tick, pair[0], pair[1])
    last = {}
    ahead = ()
    for tick, row in enumerate(rows):
        pair = first_early(crossing, last, tick, [j for j in row if j not in ahead])
        if pair is not None:
            return ("early", tick, pair[0], pair[1])
        for i in row:
            last[i] = tick
        ahead = row
    return None
