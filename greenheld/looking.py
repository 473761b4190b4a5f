"""The controller that looks at the queues alone, and what it holds."""

from math import isqrt

from greenheld.forms import is_tuple_of
from greenheld.frames import first_unlike, frame, is_choice_by, is_state, kits_of
from greenheld.leading import leaders
from greenheld.sums import lessened, multiplied


def difference(state, move):
    """The cars of the queue, less those of the one to which the movement leads."""
    q, to = move
    return state[q] - (0 if to is None else state[to])


def look_falls(town, state):
    """The falls of all movements: their differences, but 0 where these are below 0."""
    return tuple([tuple([max(0, difference(state, move)) for move in crossing[0]]) for crossing in town[1]])


def leads_of(town):
    """For each crossing the pairs (plan, capacity) of its leading plans."""
    return [leaders(crossing) for crossing in town[1]]


def weighed(capacity, falls):
    """The sum of the capacity's numbers times the falls."""
    return sum([many * fall for many, fall in zip(capacity, falls)])


def pressures_by(leads, falls):
    """The pressures of the leading plans, at these falls."""
    return tuple([tuple([weighed(capacity, some) for _, capacity in pairs]) for pairs, some in zip(leads, falls)])


def pressures(town, state):
    """For each crossing the pressures of its leading plans."""
    return pressures_by(leads_of(town), look_falls(town, state))


def lets_by(capacity, falls):
    """What the controller lets by a plan of this capacity."""
    return tuple([many if fall > 0 else 0 for many, fall in zip(capacity, falls)])


def looked_by(town, leads, state):
    """What looked returns, told the leading plans."""
    falls = look_falls(town, state)
    choice = []
    for pairs, some, pressed in zip(leads, falls, pressures_by(leads, falls)):
        plan, capacity = pairs[pressed.index(max(pressed))]
        choice.append((plan, lets_by(capacity, some)))
    return tuple(choice)


def looked(town, state):
    """The choice of the controller: the first plans with the greatest pressure."""
    return looked_by(town, leads_of(town), state)


def pressed_most(pairs, falls):
    """A dict: what each leading plan with the greatest pressure is to let."""
    most = max([weighed(capacity, falls) for _, capacity in pairs])
    return {plan: lets_by(capacity, falls) for plan, capacity in pairs if weighed(capacity, falls) == most}


def judge_looked_by(town, kits, leads, state, value):
    """What judge_looked tells of it, told the kits of the crossings and their leading plans."""
    if not is_choice_by(kits, value):
        return ("form",)
    wanted = [pressed_most(pairs, falls) for pairs, falls in zip(leads, look_falls(town, state))]
    for x, (plan, _) in enumerate(value):
        if plan not in wanted[x]:
            return ("plan", x)
    for x, (plan, lets) in enumerate(value):
        i = first_unlike(lets, wanted[x][plan])
        if i is not None:
            return ("lets", x, i)
    return None


def judge_looked(town, state, value):
    """None if it has leading plans with the greatest pressures, and just their lets; else the first fault."""
    return judge_looked_by(town, kits_of(town), leads_of(town), state, value)


def squares_of(state):
    """The sum of the squares of its numbers."""
    return sum([cars * cars for cars in state])


def cars_in(state):
    """The sum of its numbers."""
    return sum(state)


def most_led(pairs, some):
    """The greatest sum, over these leading plans, of the capacities of some movements."""
    return max([sum([capacity[i] for i in some]) for _, capacity in pairs])


def most_out(town):
    """For each queue how many cars leave it in a frame at most."""
    leads = leads_of(town)
    return tuple([max([most_led(pairs, [i for i, (start, _) in enumerate(crossing[0]) if start == q])
                       for crossing, pairs in zip(town[1], leads)])
                  for q in range(town[0])])


def most_in(town):
    """For each queue how many cars are led into it in a frame at most."""
    leads = leads_of(town)
    return tuple([sum([most_led(pairs, [i for i, (_, to) in enumerate(crossing[0]) if to == q])
                       for crossing, pairs in zip(town[1], leads)])
                  for q in range(town[0])])


def fall_constant(town, counts):
    """By how much squares rise in a frame at most, were the queues' lengths of no matter."""
    return sum([out * out + (count + into + out) * (count + into + out)
                for out, into, count in zip(most_out(town), most_in(town), counts)])


def allowed_squares(town, counts, e, state):
    """What the squares are at most, behind a frame of the controller in a town whose counts have the slack e."""
    still = squares_of(state) + fall_constant(town, counts)
    return lessened((still, 1), multiplied(e, (2 * cars_in(state), 1)))


def steady(town, counts, e):
    """The pair (S, V): with S cars or more squares fall; once they are V or less they are ever after."""
    most = fall_constant(town, counts)
    # The least integer S with 2 S e[0] / e[1] at least most + 1.
    cars = -(-((most + 1) * e[1]) // (2 * e[0]))
    return (cars, cars * cars + most)


def frames_till(town, counts, e, state):
    """How many frames it takes at most till the squares are V or less."""
    return max(0, squares_of(state) - steady(town, counts, e)[1])


def queue_bound(town, counts, e):
    """How many cars a queue has at most, once the squares are V or less."""
    return isqrt(steady(town, counts, e)[1])


def looked_run(town, state, rows):
    """The pairs (choice, state behind the frame) of the controller."""
    leads = leads_of(town)
    pairs = []
    for comings in rows:
        choice = looked_by(town, leads, state)
        state = frame(town, state, comings, choice)
        pairs.append((choice, state))
    return pairs


def judge_looked_run(town, counts, e, state, rows, value):
    """None if it tells such pairs, with any plans of the greatest pressures; else the first fault."""
    if not isinstance(value, (list, tuple)) or len(value) != len(rows):
        return ("form",)
    if not all([is_tuple_of(pair, 2) for pair in value]):
        return ("form",)
    kits, leads = kits_of(town), leads_of(town)
    for k, (choice, behind) in enumerate(value):
        fault = judge_looked_by(town, kits, leads, state, choice)
        if fault is not None:
            return ("choice", k, fault)
        state = frame(town, state, rows[k], choice)
        if not is_state(town, behind) or behind != state:
            return ("state", k)
    return None


def scaled(state, m):
    """The state with all numbers m times."""
    return tuple([cars * m for cars in state])


def same_look(town, one, other):
    """Whether the controller chooses alike in both states."""
    leads = leads_of(town)
    return looked_by(town, leads, one) == looked_by(town, leads, other)


def calmest(town, state):
    """The crossings at which no movement has a fall above 0."""
    return tuple([x for x, falls in enumerate(look_falls(town, state)) if max(falls) == 0])
