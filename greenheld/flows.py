"""What carries counts: shares of leading plans, and flows; or prices by which the waiting grows for ever."""

from greenheld.forms import is_tuple_of
from greenheld.leading import best_plan, leading_capacities, mixed_capacity
from greenheld.sums import NOUGHT, added, are_fractions, compared, divided, first_below, is_fraction
from greenheld.sums import lessened, most_of, negative, paired, summed

ONE = (1, 1)


def as_fractions(counts):
    """The counts, some of which may be integers, as fractions."""
    return tuple([count if isinstance(count, tuple) else (count, 1) for count in counts])


def raised_counts(counts, more):
    """The counts with so much more at each queue."""
    return tuple([added(count, more) for count in as_fractions(counts)])


def drop_of(prices, move):
    """The price of the queue, less that of the one to which the movement leads."""
    q, to = move
    return lessened(prices[q], NOUGHT if to is None else prices[to])


def fall_of(prices, move):
    """The drop of the movement, but 0 where it is below 0."""
    drop = drop_of(prices, move)
    return drop if drop[0] > 0 else NOUGHT


def pull(town, prices, c):
    """The greatest worth of a leading plan of crossing c, by the falls of its movements."""
    crossing = town[1][c]
    return best_plan(crossing, [fall_of(prices, move) for move in crossing[0]])[0]


def gain(town, counts, prices):
    """By how much priced waiting grows in each frame at least, if just the counts come."""
    pulls = summed([pull(town, prices, c) for c in range(len(town[1]))])
    return lessened(paired(as_fractions(counts), prices), pulls)


# The system of shares and flows. The PLACES of its rows are those of all shares, those of all flows,
# and, behind them, one for a number that is to be the greatest. Its rows are those of the flows, of
# the queues, and of the crossings, whose shares may add up to less than 1: what they lack lets more.


def places_of(town, capacities):
    """A dict: the place of each share ("share", x, j) and of each flow ("flow", x, i)."""
    shares = [("share", x, j) for x, some in enumerate(capacities) for j in range(len(some))]
    flows = [("flow", x, i) for x, crossing in enumerate(town[1]) for i in range(len(crossing[0]))]
    return {key: place for place, key in enumerate(shares + flows)}


def row_of(places, parts):
    """The row with the numbers of the dict parts at their places, and 0 at all others."""
    return tuple([parts.get(place, NOUGHT) for place in range(len(places) + 1)])


def flow_rows(places, capacities):
    """A row for each movement: its flow, less what the shares let."""
    rows = []
    for x, some in enumerate(capacities):
        for i in range(len(some[0])):
            parts = {places[("share", x, j)]: (-capacity[i], 1) for j, capacity in enumerate(some)}
            parts[places[("flow", x, i)]] = ONE
            rows.append(row_of(places, parts))
    return rows


def queue_rows(town, places, needs):
    """A row for each queue: what flows in, less what flows out, and its need so many times as the last place tells."""
    parts = [{len(places): need} for need in needs]
    for x, crossing in enumerate(town[1]):
        for i, (q, to) in enumerate(crossing[0]):
            place = places[("flow", x, i)]
            parts[q][place] = (-1, 1)
            if to is not None:
                parts[to][place] = ONE
    return [row_of(places, part) for part in parts]


def share_rows(places, capacities):
    """A row for each crossing: the sum of its shares."""
    return [row_of(places, {places[("share", x, j)]: ONE for j in range(len(some))})
            for x, some in enumerate(capacities)]


def topped(shares):
    """The shares, with what they lack of 1 put to the first one."""
    return (added(shares[0], lessened(ONE, summed(shares))),) + shares[1:]


def most_carried(town, needs, rights):
    """(amount, shares, flows, prices): the greatest amount with which, by these shares and flows, at each queue the
    need so many times, and what flows in, less what flows out, is at most its right; and prices, needs times which
    are 1, that show that no amount is greater."""
    capacities = [leading_capacities(crossing) for crossing in town[1]]
    places = places_of(town, capacities)
    flowing = flow_rows(places, capacities)
    rows = flowing + queue_rows(town, places, needs) + share_rows(places, capacities)
    sides = [NOUGHT] * len(flowing) + rights + [ONE] * len(capacities)
    _, amount, told, rates = most_of(len(places) + 1, rows, sides, row_of(places, {len(places): ONE}))
    shares = tuple([topped(tuple([told[places[("share", x, j)]] for j in range(len(some))]))
                    for x, some in enumerate(capacities)])
    flows = tuple([tuple([told[places[("flow", x, i)]] for i in range(len(some[0]))])
                   for x, some in enumerate(capacities)])
    prices = rates[len(flowing):len(flowing) + town[0]]
    # They come to more than 1 only if the amount is 0: then they may all be made less.
    whole = paired(needs, prices)
    return (amount, shares, flows, tuple([divided(price, whole) for price in prices]))


def greatest(some):
    """The greatest of one or more fractions."""
    most = some[0]
    for part in some:
        if compared(part, most) > 0:
            most = part
    return most


def most_spare(town, counts):
    """(e, shares, flows, prices): the greatest e, below 0 too, with which more at each queue shares and flows carry
    the counts; and prices, added up to 1, with the gain 0 less e."""
    some = as_fractions(counts)
    # Without any flows the counts stay within the greatest one: so what is to be the greatest is from 0 on.
    most = greatest(some)
    rights = [lessened(most, count) for count in some]
    amount, shares, flows, prices = most_carried(town, (ONE,) * town[0], rights)
    return (lessened(amount, most), shares, flows, prices)


def carried(town, counts):
    """Shares and flows that carry the counts, or prices by which the waiting grows."""
    e, shares, flows, prices = most_spare(town, counts)
    if e[0] < 0:
        return ("grows", prices, negative(e))
    return ("carried", shares, flows)


def are_shares_and_flows(town, shares, flows):
    """Whether they are tuples of as many tuples of fractions as shares and flows of the town are."""
    crossings = town[1]
    if not is_tuple_of(shares, len(crossings)) or not is_tuple_of(flows, len(crossings)):
        return False
    return all([are_fractions(flows[x], len(crossing[0]))
                and are_fractions(shares[x], len(leading_capacities(crossing)))
                for x, crossing in enumerate(crossings)])


def none_below(some):
    """Whether none of the fractions in these tuples is below 0."""
    return all([first_below(part) is None for part in some])


def first_over(crossing, shares, flows):
    """The least movement whose flow is above what the shares let, None if there is none."""
    for i, most in enumerate(mixed_capacity(crossing, shares)):
        if compared(flows[i], most) > 0:
            return i
    return None


def growths(town, counts, flows):
    """The list, for each queue, of its count and what flows in, less what flows out."""
    found = list(as_fractions(counts))
    for crossing, some in zip(town[1], flows):
        for (q, to), flow in zip(crossing[0], some):
            found[q] = lessened(found[q], flow)
            if to is not None:
                found[to] = added(found[to], flow)
    return found


def carrying_fault(town, counts, shares, flows):
    """None if these shares and flows, from 0 on, carry the counts, else the first fault."""
    for c in range(len(town[1])):
        if summed(shares[c]) != ONE:
            return ("share", c)
    for c, crossing in enumerate(town[1]):
        i = first_over(crossing, shares[c], flows[c])
        if i is not None:
            return ("flow", c, i)
    for q, growth in enumerate(growths(town, counts, flows)):
        if growth[0] > 0:
            return ("queue", q)
    return None


def judge_grows(town, counts, prices, amount):
    """None if they are prices with this gain, above 0, else the first fault."""
    if not are_fractions(prices, town[0]) or not is_fraction(amount):
        return ("form",)
    if first_below(prices) is not None:
        return ("below",)
    if summed(prices) != ONE:
        return ("sum",)
    return None if amount[0] > 0 and gain(town, counts, prices) == amount else ("amount",)


def judge_carried(town, counts, value):
    """None if it is a right answer of carried, else the first fault."""
    if not is_tuple_of(value, 3) or value[0] not in ("carried", "grows"):
        return ("form",)
    word, one, other = value
    if word == "grows":
        return judge_grows(town, counts, one, other)
    if not are_shares_and_flows(town, one, other):
        return ("form",)
    return carrying_fault(town, counts, one, other) if none_below(one + other) else ("below",)
