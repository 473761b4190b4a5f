"""Slack: how much more can come at all queues, at one, or of all counts alike; and how steeply waiting grows."""

from greenheld.flows import ONE, are_shares_and_flows, as_fractions, carried, carrying_fault, gain, judge_carried
from greenheld.flows import most_carried, most_spare, none_below, raised_counts
from greenheld.forms import is_tuple_of
from greenheld.sums import NOUGHT, are_from_nought, is_fraction, negative, paired, summed


def slack_of(town, counts):
    """The greatest slack of the counts, and what shows it; None if they are not carried."""
    e, shares, flows, prices = most_spare(town, counts)
    return None if e[0] < 0 else ("slack", e, shares, flows, prices)


def are_prices(town, value):
    """Whether it is a tuple of as many fractions from 0 on as there are queues, added up to 1."""
    return are_from_nought(value, town[0]) and summed(value) == ONE


def judge_slack(town, counts, value):
    """None if it is a right answer of slack_of, else the first fault."""
    if not is_tuple_of(value, 5) or value[0] != "slack":
        return ("form",)
    _, e, shares, flows, prices = value
    if not is_fraction(e) or e[0] < 0 or not are_prices(town, prices):
        return ("form",)
    fault = judge_carried(town, raised_counts(counts, e), ("carried", shares, flows))
    if fault is not None:
        return ("carried", fault)
    return None if gain(town, counts, prices) == negative(e) else ("prices",)


def room_at(town, counts, q):
    """How much more of the carried counts can come at this queue alone, and what shows it."""
    needs = tuple([ONE if k == q else NOUGHT for k in range(town[0])])
    return most_carried(town, needs, [negative(count) for count in as_fractions(counts)])


def rooms(town, counts):
    """How much more can come at each queue, if no more comes at the others."""
    return tuple([room_at(town, counts, q)[0] for q in range(town[0])])


def tight_queues(town, counts):
    """The queues at which no more can come."""
    return tuple([q for q, room in enumerate(rooms(town, counts)) if room == NOUGHT])


def factor_of(town, counts):
    """The most times that the counts are carried, and what shows it."""
    return most_carried(town, as_fractions(counts), [NOUGHT] * town[0])


def first_lost(town, some):
    """The number of the first of these counts that is not carried, None if all are."""
    for k, counts in enumerate(some):
        if carried(town, counts)[0] == "grows":
            return k
    return None


def mixed_counts(some, shares):
    """What these counts come to by the shares."""
    rows = [as_fractions(counts) for counts in some]
    return tuple([paired([row[q] for row in rows], shares) for q in range(len(rows[0]))])


def greatest_of(some):
    """The greatest number of these counts at each queue."""
    return tuple([max([counts[q] for counts in some]) for q in range(len(some[0]))])


def steepest(town, counts):
    """The greatest gain that prices, added up to 1, have with counts that are not carried, and what shows it."""
    e, shares, flows, prices = most_spare(town, counts)
    return (negative(e), prices, shares, flows)


def judge_steepest(town, counts, value):
    """None if it is a right answer of steepest, else the first fault."""
    if not is_tuple_of(value, 4):
        return ("form",)
    amount, prices, shares, flows = value
    if not is_fraction(amount) or amount[0] <= 0 or not are_prices(town, prices):
        return ("form",)
    if not are_shares_and_flows(town, shares, flows) or not none_below(shares + flows):
        return ("form",)
    if gain(town, counts, prices) != amount:
        return ("prices",)
    return carrying_fault(town, raised_counts(counts, negative(amount)), shares, flows)
