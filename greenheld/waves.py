"""Green waves: offsets of crossings, what wishes they keep, and rings of wishes that can't all be kept."""

from itertools import combinations

from greenheld.forms import is_between, is_tuple_of, is_whole


def wish_of(one, begin, other, late, time):
    """The wish that who leaves one as its green begins comes to other's green, which is so late in its frames."""
    return (one, other, begin + time - late)


def is_kept(wish, L, offsets):
    """Whether offsets keep the wish."""
    one, other, ticks = wish
    return (offsets[other] - offsets[one] - ticks) % L == 0


def kept(wishes, L, offsets):
    """The numbers of the wishes that offsets keep."""
    return tuple([w for w, wish in enumerate(wishes) if is_kept(wish, L, offsets)])


def begin_of(wishes, step):
    """The crossing at which a step (w, sign) over a wish begins."""
    w, sign = step
    return wishes[w][0 if sign == 1 else 1]


def end_of(wishes, step):
    """The crossing at which a step (w, sign) over a wish ends."""
    w, sign = step
    return wishes[w][1 if sign == 1 else 0]


def sum_of(wishes, steps):
    """The sum of signs times ticks."""
    return sum([sign * wishes[w][2] for w, sign in steps])


def ways_from(wishes, first):
    """A dict: for each crossing that wishes tie to the first one, steps that lead from there to it."""
    steps = [(w, sign) for w in range(len(wishes)) for sign in (1, -1)]
    ways = {first: ()}
    ahead = [first]
    while ahead:
        at = ahead.pop(0)
        for step in steps:
            end = end_of(wishes, step)
            if begin_of(wishes, step) == at and end not in ways:
                ways[end] = ways[at] + (step,)
                ahead.append(end)
    return ways


def all_ways(m, wishes):
    """A dict: for each crossing the steps that lead to it from the least one of its lot."""
    ways = {}
    for crossing in range(m):
        if crossing not in ways:
            ways.update(ways_from(wishes, crossing))
    return ways


def ring_of(w, there, back):
    """The ring over wish number w, from steps to where it begins, and steps to where it ends."""
    alike = 0
    while alike < min(len(there), len(back)) and there[alike] == back[alike]:
        alike += 1
    return ((w, 1),) + tuple([(v, -sign) for v, sign in reversed(back[alike:])]) + there[alike:]


def offsets_for(m, wishes, L):
    """Offsets that keep all wishes, or a ring of wishes that nothing keeps."""
    ways = all_ways(m, wishes)
    offsets = tuple([sum_of(wishes, ways[crossing]) % L for crossing in range(m)])
    for w, wish in enumerate(wishes):
        if not is_kept(wish, L, offsets):
            return ("ring", ring_of(w, ways[wish[0]], ways[wish[1]]))
    return ("offsets", offsets)


def is_step(wishes, value):
    """Whether it is a pair of the number of a wish and of a sign."""
    if not is_tuple_of(value, 2) or not is_between(value[0], 0, len(wishes) - 1):
        return False
    return is_whole(value[1]) and value[1] in (1, -1)


def are_steps(wishes, value):
    """Whether it is a tuple of one or more steps, none of them over the same wish."""
    if not isinstance(value, tuple) or value == () or not all([is_step(wishes, step) for step in value]):
        return False
    return len(set([w for w, _ in value])) == len(value)


def judge_ring(m, wishes, L, value):
    """None if it is a ring of wishes whose sum L does not divide, else the first fault."""
    if not are_steps(wishes, value):
        return ("form",)
    for k, step in enumerate(value):
        if begin_of(wishes, step) != end_of(wishes, value[k - 1]):
            return ("step", k)
    begins = sorted([begin_of(wishes, step) for step in value])
    for k in range(1, len(begins)):
        if begins[k] == begins[k - 1]:
            return ("twice", begins[k])
    return ("even",) if sum_of(wishes, value) % L == 0 else None


def turned_offsets(offsets, L, ticks):
    """The offsets, all more by so many ticks."""
    return tuple([(offset + ticks) % L for offset in offsets])


def all_offsets(m, free, L):
    """The list, ascending, of all offsets of m crossings with 0 for those that are not free."""
    found = [()]
    for crossing in range(m):
        ticks = list(range(L)) if crossing in free else [0]
        found = [offsets + (tick,) for offsets in found for tick in ticks]
    return found


def best_offsets(m, wishes, weights, L):
    """The greatest sum of weights of kept wishes, and the least offsets, with 0 for crossing 0, that have it."""
    best = None
    for offsets in all_offsets(m, list(range(1, m)), L):
        worth = sum([weights[w] for w in kept(wishes, L, offsets)])
        if best is None or worth > best[0]:
            best = (worth, offsets)
    return best


def least_dropped(m, wishes, L):
    """The least number of wishes without which all others can be kept, and the least lot of so many."""
    for many in range(len(wishes)):
        for lot in combinations(range(len(wishes)), many):
            left = [wish for w, wish in enumerate(wishes) if w not in lot]
            if offsets_for(m, left, L)[0] == "offsets":
                return (many, lot)
    return (len(wishes), tuple(range(len(wishes))))
