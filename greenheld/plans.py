"""Frame plans of a crossing: their need and their capacity."""

from greenheld.forms import is_tuple_of, is_whole
from greenheld.stages import clearings, stages


def need_by(cleared, plan):
    """How many ticks the plan takes, told the clearings of all stages."""
    return sum([ticks + cleared[s] for s, ticks in plan])


def need_of(crossing, plan):
    """How many ticks the plan takes, all clearings too."""
    return need_by(clearings(crossing), plan)


def is_part(value, many):
    """Whether it is a pair of one of so many stages and an integer from 1 on."""
    if not is_tuple_of(value, 2) or not all([is_whole(number) for number in value]):
        return False
    return 0 <= value[0] < many and value[1] >= 1


def judge_by(cleared, length, value):
    """What judge_plan tells of it, told the clearings of all stages, and the length."""
    if not isinstance(value, tuple) or not all([is_part(part, len(cleared)) for part in value]):
        return ("form",)
    for k in range(1, len(value)):
        if value[k][0] == value[k - 1][0]:
            return ("twice", k)
    need = need_by(cleared, value)
    return ("long", need) if need > length else None


def judge_plan(crossing, value):
    """None if it is a plan that fits, else the first fault."""
    return judge_by(clearings(crossing), crossing[2], value)


def is_plan(crossing, value):
    """Whether it is a plan that fits."""
    return judge_plan(crossing, value) is None


def capacity_by(members, many, plan):
    """How many cars each of so many movements lets in the frame, told the members of all stages."""
    return tuple([sum([ticks - 1 for s, ticks in plan if i in members[s]]) for i in range(many)])


def capacity_of(crossing, plan):
    """How many cars each movement lets in the frame."""
    return capacity_by(stages(crossing), len(crossing[0]), plan)


def is_above(one, other):
    """Whether no number of one capacity is less than that of other, and some is greater."""
    return one != other and all([mine >= its for mine, its in zip(one, other)])
