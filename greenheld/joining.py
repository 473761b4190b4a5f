"""Green ways of ambulances, and towns put together."""

from greenheld.frames import frame, led, with_comings
from greenheld.leading import leaders


def fullest_lead(crossing, i):
    """The first leading plan with the greatest capacity of movement i, and its capacity."""
    best = None
    for plan, capacity in leaders(crossing):
        if best is None or capacity[i] > best[1][i]:
            best = (plan, capacity)
    return best


def lets_for(crossing, i, capacity, lets):
    """What is let by a plan of this capacity, for movement i, where the choice had let these."""
    q = crossing[0][i][0]
    found = [0 if start == q else min(many, most) for (start, _), many, most in zip(crossing[0], lets, capacity)]
    found[i] = capacity[i]
    return tuple(found)


def way_choice(town, choice, x, i):
    """The choice, changed for an ambulance that waits in front of movement i of crossing x."""
    crossing = town[1][x]
    plan, capacity = fullest_lead(crossing, i)
    return choice[:x] + ((plan, lets_for(crossing, i, capacity, choice[x][1])),) + choice[x + 1:]


def ride(town, state, ahead, way, rows, choices):
    """The numbers of the frames in which an ambulance passes the movements of its way, and all states."""
    passed, states = [], []
    for k, (comings, choice) in enumerate(zip(rows, choices)):
        is_under_way = len(passed) < len(way)
        if is_under_way:
            x, i = way[len(passed)]
            choice = way_choice(town, choice, x, i)
            ahead -= led(town, with_comings(state, comings), choice)[x][i]
        state = frame(town, state, comings, choice)
        states.append(state)
        if is_under_way and ahead < 0:
            passed.append(k)
            to = town[1][x][0][i][1]
            ahead = 0 if to is None else state[to] - 1
    return (tuple(passed), states)


def ride_bound(town, state, way, ahead):
    """How many frames are surely enough for the first movement of the way, None if none are."""
    x, i = way[0]
    _, capacity = fullest_lead(town[1][x], i)
    return None if capacity[i] == 0 else ahead // capacity[i] + 1


def shifted(crossing, more):
    """The crossing, with all its queues numbered so many higher."""
    moves = tuple([(q + more, None if to is None else to + more) for q, to in crossing[0]])
    return (moves, crossing[1], crossing[2])


def side_by_side(one, other):
    """The town with the queues and crossings of both, those of other behind those of one."""
    return (one[0] + other[0], one[1] + tuple([shifted(crossing, one[0]) for crossing in other[1]]))


def tied(one, other, ties):
    """Both towns side by side, these movements out of one leading into these queues of other."""
    into = {place: one[0] + q for place, q in ties}
    n, crossings = side_by_side(one, other)
    found = []
    for x, (moves, crossed, length) in enumerate(crossings):
        led_on = tuple([(q, into.get((x, i), to)) for i, (q, to) in enumerate(moves)])
        found.append((led_on, crossed, length))
    return (n, tuple(found))


def apart(one, other, state):
    """The states of one and of other, in a state of both."""
    return (state[:one[0]], state[one[0]:])


def over_ties(other, ties, cars):
    """For each queue of other how many of the cars that are led come to it over ties."""
    return tuple([sum([cars[x][i] for (x, i), into in ties if into == q]) for q in range(other[0])])


def tie_rows(one, other, ties, state, rows, choices):
    """The comings of other alone: its own, and those that were led over ties in the frame before."""
    town = tied(one, other, ties)
    over = (0,) * other[0]
    found = []
    for comings, choice in zip(rows, choices):
        found.append(with_comings(apart(one, other, comings)[1], over))
        over = over_ties(other, ties, led(town, with_comings(state, comings), choice))
        state = frame(town, state, comings, choice)
    return found
