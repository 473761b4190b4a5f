"""The interlock between whatever controls a crossing and its lamps: it believes nobody."""

from greenheld.forms import is_between, is_lot, is_tuple_of, is_whole
from greenheld.towns import clearance, do_cross

MOST_TICKS = 12
LAMPS = {"red": "dark", "green": "faint"}


def foes_of(crossing, i):
    """The movements that cross movement i."""
    return tuple([j for j in range(len(crossing[0])) if do_cross(crossing, i, j)])


def widest_clearance(crossing):
    """The greatest of all clearances, 0 if there is none."""
    return max([max(ahead, behind) for _, _, ahead, behind in crossing[1]], default=0)


def new_interlock(crossing):
    """An interlock at its beginning, or as it comes back from a fall."""
    return {"time": 0, "greens": (), "ended": (), "dark": (), "faint": (), "taken": 0, "wished": (), "until": 0}


def is_wish(crossing, value):
    """Whether it is a wish: its number, the movements, and for how many ticks it stands."""
    if not is_tuple_of(value, 3) or not is_whole(value[0]) or value[0] < 1:
        return False
    return is_lot(value[1], len(crossing[0])) and is_between(value[2], 1, MOST_TICKS)


def wish_heard(crossing, interlock, value):
    """The interlock behind a wish, whatever is told as one."""
    heard = dict(interlock)
    if is_wish(crossing, value) and value[0] > interlock["taken"]:
        heard["taken"], heard["wished"], ticks = value
        heard["until"] = interlock["time"] + ticks
    return heard


def is_lamp(crossing, value):
    """Whether it tells of a lamp of a movement whether it is lit."""
    if not is_tuple_of(value, 3) or value[0] not in ("red", "green"):
        return False
    return is_between(value[1], 0, len(crossing[0]) - 1) and isinstance(value[2], bool)


def lamp_heard(crossing, interlock, value):
    """The interlock behind what is told of a lamp, whatever that is."""
    heard = dict(interlock)
    if not is_lamp(crossing, value):
        return heard
    colour, i, is_lit = value
    field = LAMPS[colour]
    others = [k for k in interlock[field] if k != i]
    heard[field] = tuple(others if is_lit else sorted(others + [i]))
    if colour == "red" and is_lit and i in interlock["dark"] and i not in interlock["greens"]:
        # Cars did not see its red, and may have gone as if it were green.
        last = dict(interlock["ended"])
        last[i] = interlock["time"]
        heard["ended"] = tuple(sorted(last.items()))
    return heard


def is_barred(crossing, interlock, i):
    """Whether a lamp bars movement i: its own green one, or a foe's red one."""
    return i in interlock["faint"] or any([foe in interlock["dark"] for foe in foes_of(crossing, i)])


def last_greens(interlock):
    """A dict: the last tick in which each movement was green, as far as the interlock tells it."""
    last = dict(interlock["ended"])
    for i in interlock["greens"]:
        last[i] = interlock["time"]
    return last


def first_tick(crossing, last, i):
    """The least tick in which movement i may begin, if its foes were green in these ticks at last."""
    ready = [last[foe] + clearance(crossing, foe, i) + 1 for foe in foes_of(crossing, i) if foe in last]
    return max(ready + [widest_clearance(crossing) + 1])


def begins(crossing, interlock, shown, i, t):
    """Whether movement i begins to be green in tick t, beside those that are shown."""
    if is_barred(crossing, interlock, i) or any([foe in shown for foe in foes_of(crossing, i)]):
        return False
    return t >= first_tick(crossing, last_greens(interlock), i)


def next_shown(crossing, interlock):
    """The interlock behind the next tick, and its greens."""
    t = interlock["time"] + 1
    wanted = interlock["wished"] if t <= interlock["until"] else ()
    shown = [i for i in wanted if i in interlock["greens"] and not is_barred(crossing, interlock, i)]
    for i in wanted:
        if i not in shown and begins(crossing, interlock, shown, i, t):
            shown.append(i)
    ended = [(i, tick) for i, tick in last_greens(interlock).items() if i not in shown]
    greens = tuple(sorted(shown))
    return ({**interlock, "time": t, "greens": greens, "ended": tuple(sorted(ended))}, greens)


def may_begin_at(crossing, interlock, i):
    """The least tick in which movement i may be green if it alone is wished, None if a lamp bars it."""
    if is_barred(crossing, interlock, i):
        return None
    soonest = interlock["time"] + 1
    if i in interlock["greens"]:
        return soonest
    return max(soonest, first_tick(crossing, last_greens(interlock), i))
