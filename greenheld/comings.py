"""Rows of cars, gates that ease them, and detectors that are wrong."""

from greenheld.forms import is_cars
from greenheld.frames import frame
from greenheld.looking import difference, leads_of, pressures


def excess_behind(counts, ahead, comings):
    """The excess behind a frame, from that ahead of it."""
    return tuple([max(0, over + more - count) for over, more, count in zip(ahead, comings, counts)])


def excess(counts, rows):
    """For each queue how many more than its counts come, over any stretch that ends with the last frame."""
    over = (0,) * len(counts)
    for comings in rows:
        over = excess_behind(counts, over, comings)
    return over


def latest_first(count, spare, cars):
    """The last frame from which, to the end, too many of these cars come, frame by frame."""
    over = 0
    for k in range(len(cars) - 1, -1, -1):
        over += cars[k] - count
        if over > spare:
            return k
    return None


def judge_comings(town, counts, spare, value):
    """None if it is rows of comings that keep the counts and the spare, else the first fault."""
    if not isinstance(value, tuple) or not all([is_cars(comings, town[0]) for comings in value]):
        return ("form",)
    over = (0,) * town[0]
    for last, comings in enumerate(value):
        over = excess_behind(counts, over, comings)
        for q in range(town[0]):
            if over[q] > spare:
                return ("more", latest_first(counts[q], spare, [row[q] for row in value[:last + 1]]), last, q)
    return None


def fullest(counts, spare, frames):
    """The rows in which each queue's count comes in each frame, and spare more in the first one."""
    return tuple([tuple([count + (spare if k == 0 else 0) for count in counts]) for k in range(frames)])


def eased(counts, rows):
    """The pair of the rows of what gates let in, and of what waits outside behind each frame."""
    waiting = (0,) * len(counts)
    inside, outside = [], []
    for comings in rows:
        there = [many + more for many, more in zip(waiting, comings)]
        inside.append(tuple([min(many, count) for many, count in zip(there, counts)]))
        waiting = tuple([max(0, many - count) for many, count in zip(there, counts)])
        outside.append(waiting)
    return (tuple(inside), tuple(outside))


def next_look(look, before, behind, wrong):
    """The look behind a frame, by detectors that see what changes, and are wrong by so much."""
    return tuple([max(0, seen + now - then + more) for seen, then, now, more in zip(look, before, behind, wrong)])


def seen_empty(look, state):
    """The look, with 0 for each queue in which nobody waits."""
    return tuple([seen if cars > 0 else 0 for seen, cars in zip(look, state)])


def looks(town, state, rows, choices, wrongs):
    """The looks behind each frame of a run."""
    look = state
    found = []
    for comings, choice, wrong in zip(rows, choices, wrongs):
        behind = frame(town, state, comings, choice)
        look = seen_empty(next_look(look, state, behind, wrong), behind)
        found.append(look)
        state = behind
    return found


def error_of(look, state):
    """How far look and state are apart at most."""
    return max([abs(seen - cars) for seen, cars in zip(look, state)], default=0)


def choice_worth(town, state, choice):
    """The sum of what is let times the difference of the queues that the movement leaves and comes to."""
    return sum([many * difference(state, move) for crossing, (_, lets) in zip(town[1], choice)
                for move, many in zip(crossing[0], lets)])


def best_worth(town, state):
    """The greatest worth of a choice."""
    return sum([max(pressed) for pressed in pressures(town, state)])


def look_loss(town, e):
    """How much worth is lost at most by a look that is nowhere off by more than e."""
    return 4 * e * sum([max([sum(capacity) for _, capacity in pairs]) for pairs in leads_of(town)])
