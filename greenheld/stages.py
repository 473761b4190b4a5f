"""Stages of a crossing, what clears them, and covers by them."""

from itertools import combinations

from greenheld.forms import is_lot
from greenheld.towns import clearance, do_cross


def fits_in(crossing, stage, i):
    """Whether movement i crosses none of the stage."""
    return not any([do_cross(crossing, i, k) for k in stage])


def with_movement(crossing, found, i):
    """From the stages of the movements below i alone, those of the movements up to i."""
    grown = []
    for stage in found:
        beside = tuple([k for k in stage if not do_cross(crossing, k, i)]) + (i,)
        if not fits_in(crossing, stage, i):
            grown.append(stage)
        if not any([k not in beside and fits_in(crossing, beside, k) for k in range(i)]):
            grown.append(beside)
    return sorted(set(grown))


def stages(crossing):
    """All stages of the crossing, ascending."""
    found = [()]
    for i in range(len(crossing[0])):
        found = with_movement(crossing, found, i)
    return tuple(found)


def is_stage(crossing, value):
    """Whether it is a stage of the crossing."""
    return is_lot(value, len(crossing[0])) and value in stages(crossing)


def clearing_of(crossing, stage):
    """How many ticks without green make way for any movement, behind this stage."""
    return max([clearance(crossing, i, j) for i in stage for j in range(len(crossing[0]))])


def clearings(crossing):
    """The clearing of each stage, in the sequence of stages."""
    return tuple([clearing_of(crossing, stage) for stage in stages(crossing)])


def clear_ticks(crossing, s):
    """The clearing of stage number s."""
    return clearing_of(crossing, stages(crossing)[s])


def first_uncovered(crossing, members, cover):
    """The least movement that is in no stage of the cover, None if there is none."""
    for i in range(len(crossing[0])):
        if not any([i in members[s] for s in cover]):
            return i
    return None


def least_cover(crossing):
    """The least cover among those with the fewest stages."""
    members = stages(crossing)
    for many in range(1, len(members)):
        for cover in combinations(range(len(members)), many):
            if first_uncovered(crossing, members, cover) is None:
                return cover
    return tuple(range(len(members)))


def is_hand(crossing, some):
    """Whether each two of these movements cross."""
    return all([do_cross(crossing, i, j) for i, j in combinations(some, 2)])


def greatest_hand(crossing):
    """The least hand among those with the most movements."""
    for many in range(len(crossing[0]), 1, -1):
        for hand in combinations(range(len(crossing[0])), many):
            if is_hand(crossing, hand):
                return hand
    return (0,)


def shares_of_cover(crossing):
    """The least cover and the greatest hand."""
    return (least_cover(crossing), greatest_hand(crossing))


def judge_cover(crossing, value):
    """None if it is a cover, else the first fault."""
    members = stages(crossing)
    if not is_lot(value, len(members)):
        return ("form",)
    left = first_uncovered(crossing, members, value)
    return None if left is None else ("movement", left)
