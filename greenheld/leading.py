"""Leading plans: the few that are enough for all capacities, what they are worth, and rounds of them."""

from math import lcm

from greenheld.forms import is_tuple_of
from greenheld.plans import capacity_of, is_plan
from greenheld.stages import clearings, stages
from greenheld.sums import compared, is_fraction, multiplied, summed


def raised(capacity, stage, cars):
    """The capacity with so many cars more for each movement of the stage."""
    return tuple([many + cars if i in stage else many for i, many in enumerate(capacity)])


def with_stage(best, stage, s, clearing, length):
    """The best plans without stage number s, and those with it as their last pair."""
    grown = {capacity: best[capacity] for capacity in best}
    for capacity in best:
        need, pairs, plan = best[capacity]
        for ticks in range(2, length - need - clearing + 1):
            more = raised(capacity, stage, ticks - 1)
            entry = (need + ticks + clearing, pairs + 1, plan + ((s, ticks),))
            if more not in grown or entry < grown[more]:
                grown[more] = entry
    return grown


def best_plans(crossing):
    """A dict: for each capacity the least (need, number of pairs, plan) of all plans that fit and have it."""
    # Each stage stands once at most, ascending, with two ticks or more: all else needs more, or comes later.
    best = {(0,) * len(crossing[0]): (0, 0, ())}
    cleared = clearings(crossing)
    for s, stage in enumerate(stages(crossing)):
        best = with_stage(best, stage, s, cleared[s], crossing[2])
    return best


def at_least(capacities, i):
    """For each number of movement i, a binary number with a 1 for each capacity that lets as many or more."""
    reached = [0] * (max([capacity[i] for capacity in capacities]) + 1)
    for k, capacity in enumerate(capacities):
        reached[capacity[i]] |= 1 << k
    for many in range(len(reached) - 1, 0, -1):
        reached[many - 1] |= reached[many]
    return reached


def highest(capacities):
    """Those of some unlike capacities above which none of them is."""
    reached = [at_least(capacities, i) for i in range(len(capacities[0]))]
    found = []
    for k, capacity in enumerate(capacities):
        nowhere_less = -1
        for i, many in enumerate(capacity):
            nowhere_less &= reached[i][many]
        if nowhere_less == 1 << k:
            found.append(capacity)
    return found


def leaders(crossing):
    """The pairs (plan, capacity) of all leading plans, ascending."""
    best = best_plans(crossing)
    return sorted([(best[capacity][2], capacity) for capacity in highest(list(best))])


def leading_plans(crossing):
    """The plans that lead, one for each capacity, ascending."""
    return tuple([plan for plan, capacity in leaders(crossing)])


def leading_capacities(crossing):
    """The capacities of leading_plans, in their sequence."""
    return tuple([capacity for plan, capacity in leaders(crossing)])


def is_enough(capacity, wanted):
    """Whether the capacity is nowhere less than what is wanted."""
    return all([many >= least for many, least in zip(capacity, wanted)])


def plan_for(crossing, wanted):
    """The plan with the least need whose capacity is nowhere less than wanted, None if none fits."""
    best = best_plans(crossing)
    enough = [best[capacity] for capacity in best if is_enough(capacity, wanted)]
    return min(enough)[2] if enough else None


def worth_of_capacity(capacity, weights):
    """The sum of the capacity's numbers times the weights."""
    return summed([multiplied((many, 1), weight) for many, weight in zip(capacity, weights)])


def worth_of(crossing, plan, weights):
    """What the plan is worth by these weights."""
    return worth_of_capacity(capacity_of(crossing, plan), weights)


def best_plan(crossing, weights):
    """The greatest worth, and the first leading plan that has it."""
    best = None
    for plan, capacity in leaders(crossing):
        worth = worth_of_capacity(capacity, weights)
        if best is None or compared(worth, best[0]) > 0:
            best = (worth, plan)
    return best


def judge_best(crossing, weights, value):
    """None if it is a pair of the greatest worth and a plan that has it, else the first fault."""
    if not is_tuple_of(value, 2) or not is_fraction(value[0]) or not is_plan(crossing, value[1]):
        return ("form",)
    worth = worth_of(crossing, value[1], weights)
    if worth != value[0]:
        return ("worth", worth)
    most, plan = best_plan(crossing, weights)
    return ("more", plan) if compared(most, worth) > 0 else None


def mixed_capacity(crossing, shares):
    """What the capacities of the leading plans come to by these shares."""
    parts = list(zip(leading_capacities(crossing), shares))
    return tuple([summed([multiplied((capacity[i], 1), share) for capacity, share in parts])
                  for i in range(len(crossing[0]))])


def round_counts(crossing, shares):
    """How often each leading plan stands in the shortest round of whole frames."""
    frames = 1
    for share in shares:
        frames = lcm(frames, share[1])
    return tuple([share[0] * (frames // share[1]) for share in shares])


def spread_round(crossing, shares):
    """The numbers of the leading plans, frame by frame, of such a round."""
    frames = []
    for j, many in enumerate(round_counts(crossing, shares)):
        frames.extend([j] * many)
    return tuple(frames)
