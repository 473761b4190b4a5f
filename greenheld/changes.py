"""Closed movements: what a town is without them, and how few of them take a queue's way out."""

from greenheld.forms import ascends, is_tuple_of
from greenheld.towns import is_place, judge_way_out, shut_queues, way_out


def left_at(town, gone):
    """For each crossing the list of its movements that are not gone."""
    return [[i for i in range(len(crossing[0])) if (x, i) not in gone] for x, crossing in enumerate(town[1])]


def closed_crossing(crossing, left):
    """The crossing with these movements alone, numbered anew."""
    moves = tuple([crossing[0][i] for i in left])
    crossed = tuple([(left.index(i), left.index(j), ahead, behind)
                     for i, j, ahead, behind in crossing[1] if i in left and j in left])
    return (moves, crossed, crossing[2])


def closed_town(town, gone):
    """The town without these movements, and without crossings that have no others."""
    return (town[0], tuple([closed_crossing(crossing, left)
                            for crossing, left in zip(town[1], left_at(town, gone)) if left]))


def kept_numbers(town, gone):
    """The pairs of the number of a movement that stays, in the town, and in the closed one."""
    pairs = []
    y = 0
    for x, left in enumerate(left_at(town, gone)):
        pairs.extend([((x, i), (y, j)) for j, i in enumerate(left)])
        if left:
            y += 1
    return tuple(pairs)


def is_served(town, gone):
    """Whether each queue that has a way out still has one, without these movements."""
    # What is closed opens no way: so the shut queues are the same ones, or more.
    return shut_queues(closed_town(town, gone)) == shut_queues(town)


def numbered_movements(town):
    """A dict: the pair (q, to) of each movement, by its number (x, i), ascending."""
    return {(x, i): move for x, crossing in enumerate(town[1]) for i, move in enumerate(crossing[0])}


def breaking(town):
    """The movements that alone, if closed, take its way out from some queue."""
    return tuple([place for place in numbered_movements(town) if not is_served(town, (place,))])


# Ways of which no two share a movement are a flow of one car over each movement at most. TAKEN, a
# dict, has the movements that the flow goes over. As long as a search from the queue comes out of the
# town, over movements that are not taken, or back over such as are, one more way is there. When it no
# longer does, the movements out of all that it reaches are taken, one by each way: they are the lot.


def searched(moves, taken, q):
    """A dict: for each queue that is reached, and None for out, the movement and the queue it is reached by."""
    reached = {q: None}
    ahead = [q]
    while ahead:
        at = ahead.pop(0)
        for place, (start, to) in moves.items():
            begin, end = (to, start) if place in taken else (start, to)
            if begin == at and end not in reached:
                reached[end] = (place, at)
                ahead.append(end)
    return reached


def turned(taken, reached):
    """What is taken when the way that was found out of the town is added."""
    found = {place: True for place in taken}
    step = reached[None]
    while step is not None:
        place, at = step
        if place in found:
            del found[place]
        else:
            found[place] = True
        step = reached[at]
    return found


def one_way(moves, left, q):
    """The list of movements of a way out of the queue, of those left, none of them twice."""
    way = []
    at = q
    while at is not None:
        way.append([place for place in left if moves[place][0] == at and place not in way][0])
        at = moves[way[-1]][1]
    return way


def greatest_flow(moves, q):
    """What is taken by as many ways as there can be, and what a search from the queue reaches then."""
    taken = {}
    reached = searched(moves, taken, q)
    while None in reached:
        taken = turned(taken, reached)
        reached = searched(moves, taken, q)
    return (taken, reached)


def ways_apart(town, q):
    """The least lot that takes the queue's way out, and as many ways out that share no movement."""
    moves = numbered_movements(town)
    taken, reached = greatest_flow(moves, q)
    lot = tuple([place for place, (start, to) in moves.items() if start in reached and to not in reached])
    left = list(taken)
    ways = []
    while len(ways) < len(lot):
        way = one_way(moves, left, q)
        left = [place for place in left if place not in way]
        ways.append(tuple(way))
    return (lot, tuple(ways))


def least_breaking(town):
    """A least lot of movements that takes its way out from some queue, None if no queue has one."""
    shut = shut_queues(town)
    lots = [ways_apart(town, q)[0] for q in range(town[0]) if q not in shut]
    return min(lots, key=len) if lots else None


def is_movement_lot(town, value):
    """Whether it is an ascending tuple of unlike movements of the town."""
    return isinstance(value, tuple) and all([is_place(town, place) for place in value]) and ascends(value)


def are_ways_out(town, q, value):
    """Whether it is a tuple of ways out of the queue."""
    return isinstance(value, tuple) and all([judge_way_out(town, q, way) is None for way in value])


def first_shared(ways):
    """The least movement that two of the ways have, None if there is none."""
    times = {}
    for way in ways:
        for place in sorted(set(way)):
            times[place] = times.get(place, 0) + 1
    return min([place for place in times if times[place] > 1], default=None)


def way_left(town, q, gone):
    """The least way out of the queue that the closed town has, in numbers of the town; None if there is none."""
    way = way_out(closed_town(town, gone), q)
    if way is None:
        return None
    numbers = {new: old for old, new in kept_numbers(town, gone)}
    return tuple([numbers[place] for place in way])


def judge_apart(town, q, value):
    """None if it is a lot that takes the queue's way out, and as many ways that share nothing; else the first fault."""
    if not is_tuple_of(value, 2) or not is_movement_lot(town, value[0]) or not are_ways_out(town, q, value[1]):
        return ("form",)
    lot, ways = value
    if len(lot) != len(ways):
        return ("many",)
    shared = first_shared(ways)
    if shared is not None:
        return ("share", shared)
    way = way_left(town, q, lot)
    return None if way is None else ("left", way)
