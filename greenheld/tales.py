"""Tales: the greens that an interlock has shown, tick by tick, and what they must never tell."""

from greenheld.forms import is_lot
from greenheld.interlock import lamp_heard, new_interlock, next_shown, wish_heard
from greenheld.lamps import first_crossed, first_early


def judge_tale(crossing, tale):
    """None if no two that cross are green together, or too soon behind one another; else the first fault."""
    if not isinstance(tale, tuple) or not all([is_lot(row, len(crossing[0])) for row in tale]):
        return ("form",)
    last = {}
    ahead = ()
    for t, row in enumerate(tale, 1):
        both = first_crossed(crossing, row)
        if both is not None:
            return ("both", t, both[0], both[1])
        early = first_early(crossing, last, t, [j for j in row if j not in ahead])
        if early is not None:
            return ("early", t, early[0], early[1])
        for i in row:
            last[i] = t
        ahead = row
    return None


def cars_let(crossing, tale):
    """How many cars the greens of each movement let: one for each tick of a stretch but the first."""
    return tuple([len([k for k in range(1, len(tale)) if i in tale[k] and i in tale[k - 1]])
                  for i in range(len(crossing[0]))])


def tale_of(crossing, happenings):
    """The interlock behind all happenings, and the tale of what it has shown."""
    interlock = new_interlock(crossing)
    tale = []
    for happening in happenings:
        word = happening[0]
        if word == "tick":
            interlock, shown = next_shown(crossing, interlock)
            tale.append(shown)
        elif word == "wish":
            interlock = wish_heard(crossing, interlock, happening[1])
        elif word == "lamp":
            interlock = lamp_heard(crossing, interlock, happening[1])
        else:
            interlock = new_interlock(crossing)
    return (interlock, tuple(tale))


def wishes_for(tale, first):
    """The wishes for the ticks of a tale, numbered behind first."""
    return tuple([(first + k, row, 1) for k, row in enumerate(tale, 1)])
