"""Towns, their crossings and movements, and the ways out of their queues."""

from greenheld.forms import ascends, is_between, is_tuple_of

MOST_QUEUES = 24
MOST_CROSSINGS = 8
MOST_CLEARANCE = 30
MOST_LENGTH = 120


def is_movement(value, n):
    """Whether it is a pair of a queue and of another one, or None, among n queues."""
    if not is_tuple_of(value, 2) or not is_between(value[0], 0, n - 1):
        return False
    return value[1] is None or (is_between(value[1], 0, n - 1) and value[1] != value[0])


def are_movements(value, n):
    """Whether it is a tuple of unlike movements among n queues, not ()."""
    if not isinstance(value, tuple) or value == ():
        return False
    return all([is_movement(move, n) for move in value]) and len(set(value)) == len(value)


def is_crossed(value, many):
    """Whether it is a quadruple of two of so many movements and their clearances."""
    if not is_tuple_of(value, 4) or not all([is_between(i, 0, many - 1) for i in value[:2]]):
        return False
    return value[0] < value[1] and all([is_between(ticks, 0, MOST_CLEARANCE) for ticks in value[2:]])


def are_crossed(value, many):
    """Whether it tells, ascending, which of so many movements cross one another."""
    if not isinstance(value, tuple) or not all([is_crossed(row, many) for row in value]):
        return False
    return ascends([row[:2] for row in value])


def is_crossing(value, n):
    """Whether it is a crossing whose queues are among n."""
    if not is_tuple_of(value, 3) or not are_movements(value[0], n):
        return False
    return are_crossed(value[1], len(value[0])) and is_between(value[2], 1, MOST_LENGTH)


def has_town_form(value):
    """Whether it is a pair of a number of queues and as many members as a town may have crossings."""
    if not is_tuple_of(value, 2) or not is_between(value[0], 1, MOST_QUEUES):
        return False
    return isinstance(value[1], tuple) and 1 <= len(value[1]) <= MOST_CROSSINGS


def starts_at(crossing, q):
    """Whether a movement of this queue stands at the crossing."""
    return q in [move[0] for move in crossing[0]]


def judge_town(value):
    """None if it is a right town, else the first fault."""
    if not has_town_form(value):
        return ("form",)
    n, crossings = value
    for x, crossing in enumerate(crossings):
        if not is_crossing(crossing, n):
            return ("crossing", x)
    for x, crossing in enumerate(crossings):
        if crossing[2] != crossings[0][2]:
            return ("length", x)
    for q in range(n):
        if len([crossing for crossing in crossings if starts_at(crossing, q)]) > 1:
            return ("queue", q)
    return None


def is_town(value):
    """Whether it is a right town."""
    return judge_town(value) is None


def crossing_of(town, q):
    """The number of the crossing at which movements of the queue stand, None if there is none."""
    for x, crossing in enumerate(town[1]):
        if starts_at(crossing, q):
            return x
    return None


def movements_from(town, q):
    """The numbers of the queue's movements, at their crossing."""
    x = crossing_of(town, q)
    if x is None:
        return ()
    return tuple([i for i, move in enumerate(town[1][x][0]) if move[0] == q])


def movements_to(town, to):
    """The pairs (x, i) of all movements that lead into this queue, or out for None."""
    return tuple([(x, i) for x, crossing in enumerate(town[1])
                  for i, move in enumerate(crossing[0]) if move[1] == to])


def movements_into(town, q):
    """The pairs (x, i) of all movements that lead into the queue."""
    return movements_to(town, q)


def exits(town):
    """The pairs (x, i) of all movements that lead out of the town."""
    return movements_to(town, None)


def do_cross(crossing, i, j):
    """Whether two movements cross."""
    return any([row[:2] in ((i, j), (j, i)) for row in crossing[1]])


def clearance(crossing, i, j):
    """How many ticks movement j waits behind the end of green of i."""
    for one, other, ahead, behind in crossing[1]:
        if (one, other) == (i, j):
            return ahead
        if (other, one) == (i, j):
            return behind
    return 0


def all_movements(town):
    """The list of the pairs (q, to) of all movements."""
    return [move for crossing in town[1] for move in crossing[0]]


def steps_out(town):
    """A dict: how many movements lead out from each queue at least; 0 for None. Shut queues are not in it."""
    steps = {None: 0}
    for many in range(1, town[0] + 1):
        for q, to in all_movements(town):
            if q not in steps and steps.get(to) == many - 1:
                steps[q] = many
    return steps


def way_out(town, q):
    """The least of the shortest ways out of the queue, None if there is none."""
    steps = steps_out(town)
    if q not in steps:
        return None
    way = []
    at = q
    while at is not None:
        x = crossing_of(town, at)
        moves = town[1][x][0]
        nearer = [i for i in movements_from(town, at) if steps.get(moves[i][1]) == steps[at] - 1]
        way.append((x, nearer[0]))
        at = moves[nearer[0]][1]
    return tuple(way)


def is_place(town, value):
    """Whether it is a pair (x, i) of a movement of the town."""
    if not is_tuple_of(value, 2) or not is_between(value[0], 0, len(town[1]) - 1):
        return False
    return is_between(value[1], 0, len(town[1][value[0]][0]) - 1)


def judge_way_out(town, q, value):
    """None if it is a way out of the queue, else the first fault."""
    if not isinstance(value, tuple) or value == () or not all([is_place(town, part) for part in value]):
        return ("form",)
    at = q
    for k, (x, i) in enumerate(value):
        start, to = town[1][x][0][i]
        if start != at:
            return ("step", k)
        at = to
    return None if at is None else ("end",)


def shut_queues(town):
    """The queues without a way out."""
    steps = steps_out(town)
    return tuple([q for q in range(town[0]) if q not in steps])


def reached_from(town, q):
    """The queues into which cars of the queue can come."""
    found = set()
    ahead = [q]
    while ahead:
        at = ahead.pop()
        for start, to in all_movements(town):
            if start == at and to is not None and to not in found:
                found.add(to)
                ahead.append(to)
    return tuple(sorted(found))
