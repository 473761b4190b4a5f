"""Timetables, which go round: what they hold, and the bounds that no queue ever passes."""

from math import lcm

from greenheld.frames import is_choice_by, kits_of, out_and_in
from greenheld.leading import leaders
from greenheld.plans import capacity_of


def table_choice(table, t):
    """The choice of frame number t."""
    return table[t % len(table)]


def round_lets(town, table):
    """How many cars each movement lets in a whole round."""
    return tuple([tuple([sum([choice[x][1][i] for choice in table]) for i in range(len(crossing[0]))])
                  for x, crossing in enumerate(town[1])])


def is_timetable(town, value):
    """Whether it is a timetable: one or more choices of the town."""
    if not isinstance(value, tuple) or value == ():
        return False
    kits = kits_of(town)
    return all([is_choice_by(kits, choice) for choice in value])


def frames_of(shares, flows):
    """The least number of frames by which each share and flow, so many times, is a whole number."""
    frames = 1
    for some in shares + flows:
        for part in some:
            frames = lcm(frames, part[1])
    return frames


def times(part, frames):
    """The fraction so many times, where that is a whole number."""
    return part[0] * (frames // part[1])


def round_of(crossing, shares, flows, frames):
    """The list of the pairs (plan, lets) of a crossing, frame by frame."""
    left = [times(flow, frames) for flow in flows]
    pairs = []
    for (plan, capacity), share in zip(leaders(crossing), shares):
        for _ in range(times(share, frames)):
            lets = tuple([min(many, most) for many, most in zip(left, capacity)])
            left = [many - gone for many, gone in zip(left, lets)]
            pairs.append((plan, lets))
    return pairs


def choices_of(rounds):
    """The timetable of the rounds of all crossings, each a list of as many pairs."""
    return tuple([tuple([pairs[k] for pairs in rounds]) for k in range(len(rounds[0]))])


def timetable(town, shares, flows):
    """The shortest timetable of these shares and flows."""
    frames = frames_of(shares, flows)
    return choices_of([round_of(crossing, shares[x], flows[x], frames) for x, crossing in enumerate(town[1])])


def round_sums(town, counts, table):
    """For each queue the pair (L, M): what its movements let in a round, and what may come into it."""
    out, into = out_and_in(town, round_lets(town, table))
    return [(out[q], len(table) * counts[q] + into[q]) for q in range(town[0])]


def judge_timetable(town, counts, value):
    """None if it is a timetable that holds the counts, else the first fault."""
    if not is_timetable(town, value):
        return ("form",)
    for q, (lets, comes) in enumerate(round_sums(town, counts, value)):
        if comes > lets:
            return ("queue", q)
    return None


def turned_table(table, k):
    """The round that begins with frame number k."""
    first = k % len(table)
    return table[first:] + table[:first]


def low_bound(lets, comes):
    """What is left at most in a queue that was once emptied, behind a round: L - 1 + M, 0 for L - 1 if L is 0."""
    return max(lets - 1, 0) + comes


def round_bound(town, counts, table, state):
    """How many cars each queue has at most behind each whole round."""
    return tuple([max(cars, low_bound(lets, comes))
                  for cars, (lets, comes) in zip(state, round_sums(town, counts, table))])


def table_bound(town, counts, table, state):
    """How many cars each queue has at most behind each frame."""
    sums = round_sums(town, counts, table)
    return tuple([most + comes for most, (_, comes) in zip(round_bound(town, counts, table, state), sums)])


def least_times(many, part):
    """The least integer that, times part, above 0, is at least many."""
    return -(-many // part)


def rounds_till_low(cars, lets, comes):
    """The number of rounds till a queue with so many cars has few, None if it may never have."""
    over = max(cars - low_bound(lets, comes), 0)
    if over == 0:
        return 0
    return None if lets <= comes else least_times(over, lets - comes)


def rounds_till(town, counts, table, state):
    """For each queue the number of rounds till it has few cars, for ever; None if that may never be."""
    return tuple([rounds_till_low(cars, lets, comes)
                  for cars, (lets, comes) in zip(state, round_sums(town, counts, table))])


def longest_wait(town, counts, table, state):
    """For each queue the number of frames in which each car leaves it, None if none ever does."""
    bounds = round_bound(town, counts, table, state)
    return tuple([None if lets == 0 else len(table) * (1 + least_times(most, lets))
                  for most, (lets, _) in zip(bounds, round_sums(town, counts, table))])


def dealt(many, capacities):
    """So many cars, dealt over frames as evenly as their capacities let."""
    whole = sum(capacities)
    lets = []
    room = given = 0
    for capacity in capacities:
        room += capacity
        part = least_times(many * room, whole) - given if whole > 0 else 0
        lets.append(part)
        given += part
    return lets


def spread_at(crossing, pairs):
    """The pairs (plan, lets) of a crossing, with lets dealt evenly."""
    capacities = [capacity_of(crossing, plan) for plan, _ in pairs]
    rows = [dealt(sum([lets[i] for _, lets in pairs]), [capacity[i] for capacity in capacities])
            for i in range(len(crossing[0]))]
    return [(plan, tuple([row[k] for row in rows])) for k, (plan, _) in enumerate(pairs)]


def spread(town, table):
    """The timetable of the same plans, in which each movement lets as many in a round, as evenly as can be."""
    return choices_of([spread_at(crossing, [choice[x] for choice in table]) for x, crossing in enumerate(town[1])])


def least_bound(town, counts, tables):
    """The number of the first table whose greatest bound, from the empty town, is the least."""
    empty = (0,) * town[0]
    bounds = [max(table_bound(town, counts, table, empty)) for table in tables]
    return bounds.index(min(bounds))
