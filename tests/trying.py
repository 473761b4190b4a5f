"""All plans of small crossings, tried one by one."""

import random

from greenheld.stages import stages
from tests.support import EAST, crossing_by_chance


def plain_clearing(crossing, stage):
    """The greatest clearance behind a movement of the stage."""
    return max([0] + [ahead for i, _, ahead, _ in crossing[1] if i in stage]
               + [behind for _, j, _, behind in crossing[1] if j in stage])


def all_plans(crossing, most=10 ** 9):
    """All plans that fit, with their needs and capacities; None if there are more than most."""
    members = stages(crossing)
    cleared = [plain_clearing(crossing, stage) for stage in members]
    found = []
    open_ones = [((), 0, (0,) * len(crossing[0]))]
    while open_ones:
        plan, need, capacity = open_ones.pop()
        found.append((plan, need, capacity))
        if len(found) > most:
            return None
        for s, stage in enumerate(members):
            if plan and plan[-1][0] == s:
                continue
            for ticks in range(1, crossing[2] - need - cleared[s] + 1):
                more = tuple(cars + (ticks - 1) * (i in stage) for i, cars in enumerate(capacity))
                open_ones.append((plan + ((s, ticks),), need + ticks + cleared[s], more))
    return found


def small_crossings(seed=1, most=4000):
    """Pairs of a crossing of one to six movements, length 1 to 12, and all its plans, at most so many."""
    chance = random.Random(seed)
    found = []
    for many in range(1, 7):
        for length in range(1, 13):
            for share in (0, 0.4, 0.7, 1):
                crossing = crossing_by_chance(chance, many, length, most=chance.choice((0, 1, 3, 14)), share=share)
                plans = all_plans(crossing, most)
                if plans is not None:
                    found.append((crossing, plans))
    return found + [(EAST, all_plans(EAST))]


def nowhere_less(one, other):
    return all(mine >= its for mine, its in zip(one, other))


def choice_of(plans):
    """The plan with the least need, of these with the fewest pairs, of these the least."""
    return min((need, len(plan), plan) for plan, need, _ in plans)[2]
