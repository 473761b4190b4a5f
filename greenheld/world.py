"""Worlds: towns that run, event by event, whatever is wished, lost, and told of lamps."""

from greenheld.comings import next_look, seen_empty
from greenheld.errors import BadEvent
from greenheld.forms import is_between, is_cars, is_from_nought, is_tuple_of, is_whole
from greenheld.frames import frame, is_pair, kit_of, led, led_out, still_choice, with_comings
from greenheld.interlock import lamp_heard, new_interlock, next_shown, wish_heard
from greenheld.lamps import lamp_rows
from greenheld.looking import cars_in, looked, squares_of, steady
from greenheld.tales import cars_let, judge_tale

LOOK = ("look",)
DARK = ("dark",)
TABLE = "table"


def new_world(town, state):
    """The world at the beginning."""
    many = len(town[1])
    return {"town": town, "state": state, "look": state, "frame": 0, "began": cars_in(state), "came": 0, "gone": 0,
            "modes": (LOOK,) * many, "locks": tuple([new_interlock(crossing) for crossing in town[1]]),
            "tales": ((),) * many, "mute": (0,) * many}


def order_by(mode, number, seen, still):
    """The pair of a crossing for the frame with this number, told what looking chooses, and what leaves all red."""
    if mode == LOOK:
        return seen
    return still if mode == DARK else mode[1][number % len(mode[1])]


def orders_now(world):
    """The choice of the next frame, each crossing by its mode."""
    town, modes = world["town"], world["modes"]
    still = still_choice(town)
    seen = looked(town, world["look"]) if LOOK in modes else still
    return tuple([order_by(mode, world["frame"], seen[x], still[x]) for x, mode in enumerate(modes)])


def is_crossing_number(world, value):
    """Whether it is the number of a crossing of the world."""
    return is_between(value, 0, len(world["town"][1]) - 1)


def are_wrongs(world, value):
    """Whether it tells for each queue by how much its detectors are wrong."""
    return is_tuple_of(value, world["town"][0]) and all([is_whole(wrong) for wrong in value])


def is_round(crossing, value):
    """Whether it is a tuple of one or more right pairs (plan, lets) of the crossing."""
    if not isinstance(value, tuple) or value == ():
        return False
    kit = kit_of(crossing)
    return all([is_pair(kit, pair) for pair in value])


def is_mode(crossing, value):
    """Whether it is a mode that is right for the crossing."""
    if is_tuple_of(value, 2) and value[0] == TABLE:
        return is_round(crossing, value[1])
    return value in (LOOK, DARK)


def is_event(world, value):
    """Whether it is an event of this world."""
    # To a pattern a list is as good as a tuple.
    if not isinstance(value, tuple):
        return False
    n, crossings = world["town"]
    match value:
        case ("frame", comings, wrong):
            return is_cars(comings, n) and are_wrongs(world, wrong)
        case ("lamp", x, _):
            return is_crossing_number(world, x)
        case ("fall", x):
            return is_crossing_number(world, x)
        case ("mute", x, ticks):
            return is_crossing_number(world, x) and is_from_nought(ticks)
        case ("mode", x, mode):
            return is_crossing_number(world, x) and is_mode(crossings[x], mode)
        case ("drop", q, cars):
            return is_between(q, 0, n - 1) and is_from_nought(cars)
    return False


def exchanged(some, k, member):
    """The tuple with another member at place k."""
    return some[:k] + (member,) + some[k + 1:]


def shown_in_frame(crossing, interlock, mute, wishes):
    """The interlock behind a frame, for whose ticks these greens are wished, what is left of mute, and the greens."""
    shown = []
    for greens in wishes:
        if mute > 0:
            mute -= 1
        else:
            interlock = wish_heard(crossing, interlock, (interlock["taken"] + 1, greens, 1))
        interlock, row = next_shown(crossing, interlock)
        shown.append(row)
    return (interlock, mute, tuple(shown))


def cut_lets(crossing, lets, shown):
    """What each movement may let, by the lets and by the greens that were shown."""
    return tuple([min(many, most) for many, most in zip(lets, cars_let(crossing, shown))])


def behind_frame(world, comings, wrong):
    """The world behind a frame."""
    town, state = world["town"], world["state"]
    locks, mute, tales, choice = [], [], [], []
    for x, (plan, lets) in enumerate(orders_now(world)):
        crossing = town[1][x]
        wishes = lamp_rows(crossing, [plan])
        interlock, still_mute, shown = shown_in_frame(crossing, world["locks"][x], world["mute"][x], wishes)
        locks.append(interlock)
        mute.append(still_mute)
        tales.append(world["tales"][x] + shown)
        choice.append((plan, cut_lets(crossing, lets, shown)))
    behind = frame(town, state, comings, choice)
    gone = led_out(town, led(town, with_comings(state, comings), choice))
    look = seen_empty(next_look(world["look"], state, behind, wrong), behind)
    return {**world, "state": behind, "look": look, "frame": world["frame"] + 1, "came": world["came"] + sum(comings),
            "gone": world["gone"] + gone, "locks": tuple(locks), "tales": tuple(tales), "mute": tuple(mute)}


def behind_lamp(world, x, value):
    """The world behind what is told of a lamp."""
    heard = lamp_heard(world["town"][1][x], world["locks"][x], value)
    return {**world, "locks": exchanged(world["locks"], x, heard)}


def behind_fall(world, x):
    """The world behind the fall of an interlock."""
    return {**world, "locks": exchanged(world["locks"], x, new_interlock(world["town"][1][x]))}


def behind_mute(world, x, ticks):
    """The world in which so many ticks of wishes will be lost."""
    return {**world, "mute": exchanged(world["mute"], x, ticks)}


def behind_mode(world, x, mode):
    """The world in which a crossing has another mode."""
    return {**world, "modes": exchanged(world["modes"], x, mode)}


def behind_drop(world, q, cars):
    """The world behind cars that come between frames, unseen."""
    state = exchanged(world["state"], q, world["state"][q] + cars)
    return {**world, "state": state, "came": world["came"] + cars}


def behind_event(world, event):
    """The world behind what surely is an event of it."""
    match event:
        case ("frame", comings, wrong):
            return behind_frame(world, comings, wrong)
        case ("lamp", x, value):
            return behind_lamp(world, x, value)
        case ("fall", x):
            return behind_fall(world, x)
        case ("mute", x, ticks):
            return behind_mute(world, x, ticks)
        case ("mode", x, mode):
            return behind_mode(world, x, mode)
        case ("drop", q, cars):
            return behind_drop(world, q, cars)


def after(world, event):
    """The world behind an event."""
    if not is_event(world, event):
        raise BadEvent(0)
    return behind_event(world, event)


def played(world, script):
    """The world behind all events of a script."""
    for number, event in enumerate(script):
        if not is_event(world, event):
            raise BadEvent(number)
    for event in script:
        world = behind_event(world, event)
    return world


def cars_there(world):
    """How many cars wait."""
    return cars_in(world["state"])


def shown_greens(world, x, tick):
    """The greens that a crossing has shown in this tick, counted from 1."""
    tale = world["tales"][x]
    return tale[tick - 1] if tick <= len(tale) else ()


def waited(world):
    """The crossings that are controlled by looking."""
    return tuple([x for x, mode in enumerate(world["modes"]) if mode == LOOK])


def judge_world(world):
    """None if all tales are right and no car is lost, else the first fault."""
    for x, (crossing, tale) in enumerate(zip(world["town"][1], world["tales"])):
        fault = judge_tale(crossing, tale)
        if fault is not None:
            return ("tale", x, fault)
    due, there = world["began"] + world["came"] - world["gone"], cars_there(world)
    if due != there or min(world["state"]) < 0:
        return ("cars", due, there)
    return None


def run_on(world, comings, frames):
    """The world behind so many quiet frames with the same comings."""
    still = (0,) * world["town"][0]
    for _ in range(frames):
        world = behind_frame(world, comings, still)
    return world


def fullest_queue(world):
    """The least queue with the most cars."""
    return world["state"].index(max(world["state"]))


def settled_for(world, counts, e):
    """Whether the squares are as few as those by which the controller holds the counts."""
    return squares_of(world["state"]) <= steady(world["town"], counts, e)[1]
