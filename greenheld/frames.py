"""Frames: cars come, wait, and are led on, as a choice of plans and lets tells; and priced waiting."""

from greenheld.flows import drop_of, gain
from greenheld.forms import is_cars, is_tuple_of
from greenheld.leading import is_enough, leaders
from greenheld.plans import capacity_by, judge_by
from greenheld.stages import clearings, stages
from greenheld.sums import multiplied, paired, summed


def is_state(town, value):
    """Whether it tells how many cars wait in each queue."""
    return is_cars(value, town[0])


def kit_of(crossing):
    """What pairs of a crossing are looked at with: itself, the members and the clearings of its stages."""
    return (crossing, stages(crossing), clearings(crossing))


def kits_of(town):
    """The kit of each crossing."""
    return [kit_of(crossing) for crossing in town[1]]


def is_pair(kit, value):
    """Whether it is a pair of a plan that fits and of lets within its capacity."""
    crossing, members, cleared = kit
    many = len(crossing[0])
    if not is_tuple_of(value, 2) or judge_by(cleared, crossing[2], value[0]) is not None:
        return False
    return is_cars(value[1], many) and is_enough(capacity_by(members, many, value[0]), value[1])


def is_choice_by(kits, value):
    """Whether it is a choice of the town of these kits."""
    return is_tuple_of(value, len(kits)) and all([is_pair(kit, pair) for kit, pair in zip(kits, value)])


def is_choice(town, value):
    """Whether it has, for each crossing, a plan that fits and lets within its capacity."""
    return is_choice_by(kits_of(town), value)


def led(town, state, choice):
    """How many cars each movement leads, of those that wait behind the comings."""
    left = list(state)
    found = []
    for crossing, (_, lets) in zip(town[1], choice):
        cars = []
        for (q, _), most in zip(crossing[0], lets):
            cars.append(min(most, left[q]))
            left[q] -= cars[-1]
        found.append(tuple(cars))
    return tuple(found)


def out_and_in(town, numbers):
    """Two lists: for each queue the sums of the numbers of all movements from it, and of those into it."""
    out, into = [0] * town[0], [0] * town[0]
    for crossing, some in zip(town[1], numbers):
        for (q, to), number in zip(crossing[0], some):
            out[q] += number
            if to is not None:
                into[to] += number
    return (out, into)


def with_comings(state, comings):
    """The state with the cars that come."""
    return tuple([waiting + more for waiting, more in zip(state, comings)])


def frame(town, state, comings, choice):
    """The state behind a frame."""
    waiting = with_comings(state, comings)
    out, into = out_and_in(town, led(town, waiting, choice))
    return tuple([waiting[q] - out[q] + into[q] for q in range(town[0])])


def run(town, state, rows, choices):
    """The states behind each frame."""
    states = []
    for comings, choice in zip(rows, choices):
        state = frame(town, state, comings, choice)
        states.append(state)
    return states


def led_out(town, led_cars):
    """How many of these cars leave the town."""
    return sum([cars for crossing, some in zip(town[1], led_cars)
                for (_, to), cars in zip(crossing[0], some) if to is None])


def left_town(town, state, rows, choices):
    """How many cars leave the town in all these frames."""
    gone = 0
    for comings, choice in zip(rows, choices):
        gone += led_out(town, led(town, with_comings(state, comings), choice))
        state = frame(town, state, comings, choice)
    return gone


def priced(prices, state):
    """The sum of prices times cars."""
    return paired(prices, [(cars, 1) for cars in state])


def step_of(prices, movement):
    """The price of the queue, less that of the one to which the movement leads."""
    return drop_of(prices, movement)


def paid(town, prices, led_cars):
    """The sum of the cars that are led times the steps of their movements."""
    return summed([multiplied((cars, 1), step_of(prices, move)) for crossing, some in zip(town[1], led_cars)
                   for move, cars in zip(crossing[0], some)])


def grown(town, counts, prices, frames):
    """By how much priced waiting grows at least, in so many frames of just the counts."""
    return multiplied(gain(town, counts, prices), (frames, 1))


def still_choice(town):
    """The choice by which nothing is let."""
    return tuple([((), (0,) * len(crossing[0])) for crossing in town[1]])


def full_choice(town, numbers):
    """The choice of the leading plans with these numbers, all that they can let being let."""
    return tuple([leaders(crossing)[number] for crossing, number in zip(town[1], numbers)])


def first_unlike(one, other):
    """The least place at which two tuples differ, None if there is none."""
    for k, (mine, its) in enumerate(zip(one, other)):
        if mine != its:
            return k
    return None


def judge_run(town, state, rows, choices, value):
    """None if it tells the states of run, else the first fault."""
    if not isinstance(value, (list, tuple)) or len(value) != len(rows):
        return ("form",)
    if not all([is_state(town, told) for told in value]):
        return ("form",)
    for k, (told, there) in enumerate(zip(value, run(town, state, rows, choices))):
        q = first_unlike(told, there)
        if q is not None:
            return (k, q)
    return None


def above(one, other):
    """Whether one state has in each queue at least as many cars as other."""
    return is_enough(one, other)


def most_waiting(states):
    """The greatest number that each queue ever has."""
    return tuple([max([state[q] for state in states]) for q in range(len(states[0]))]) if states else ()
