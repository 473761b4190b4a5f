"""A plain world, events and scripts by chance, and towns in which they happen."""

from greenheld.stages import stages
from tests.locks import PlainLock
from tests.plain import choice_by_chance, plain_is_choice, row_by_chance
from tests.support import ODD_VALUES, plain_int, town_by_chance
from tests.test_looking import plain_looked
from tests.trying import plain_clearing

LINE = (2, ((((0, 1), (1, None)), ((0, 1, 1, 1),), 6),))
# Towns of one queue, of crossings at which nothing crosses, of frames too short for any car.
SMALL = [(1, ((((0, None),), (), 4),)), (2, ((((0, 1), (1, None)), (), 5),)), (3, ((((0, 2), (1, 2)), (), 3), (((2, None),), (), 3))),
         (2, ((((0, None), (1, None)), ((0, 1, 0, 0),), 1),)), (3, ((((0, 1),), (), 12),))]


def world_town(chance):
    """A town of up to three crossings, short frames and long ones, clearances longer than frames, too."""
    if chance.random() < 0.15:
        return chance.choice(SMALL)
    n, crossings = town_by_chance(chance, length=chance.choice((12, 12, 8, chance.randint(1, 12))))
    if chance.random() < 0.1:
        crossings = tuple((moves, tuple((i, j, a * 7, b) for i, j, a, b in crossed), length) for moves, crossed, length in crossings)
    return (n, crossings)


def plan_rows(crossing, plan):
    """What a plan shows in each tick of a frame."""
    rows, members = [], stages(crossing)
    for s, ticks in plan:
        rows += [members[s]] * ticks + [()] * plain_clearing(crossing, members[s])
    return rows + [()] * (crossing[2] - len(rows))


class PlainWorld:
    """A world by the words of [13.1] and [13.2], step by step."""

    def __init__(self, town, state):
        self.town = town
        self.state, self.look = list(state), list(state)
        self.frames, self.began, self.came, self.gone = 0, sum(state), 0, 0
        self.modes = [("look",) for _ in town[1]]
        self.locks = [PlainLock(crossing) for crossing in town[1]]
        self.tales = [[] for _ in town[1]]
        self.mute = [0 for _ in town[1]]

    def orders(self):
        pairs = []
        for x, (crossing, mode) in enumerate(zip(self.town[1], self.modes)):
            if mode[0] == "look":
                pairs.append(plain_looked(self.town, tuple(self.look))[x])
            elif mode[0] == "table":
                pairs.append(mode[1][self.frames % len(mode[1])])
            else:
                pairs.append(((), (0,) * len(crossing[0])))
        return tuple(pairs)

    def shown(self, x, plan):
        """A frame of ticks at one crossing."""
        lock, found = self.locks[x], []
        for greens in plan_rows(self.town[1][x], plan):
            if self.mute[x] == 0:
                lock.wish((lock.taken + 1, greens, 1))
            else:
                self.mute[x] -= 1
            found.append(lock.tick())
        self.tales[x] += found
        return found

    def frame(self, comings, wrong):
        before, lets = list(self.state), []
        for x, (plan, some) in enumerate(self.orders()):
            rows = self.shown(x, plan)
            lets.append([min(many, sum(1 for k in range(1, len(rows)) if i in rows[k] and i in rows[k - 1]))
                         for i, many in enumerate(some)])
        for q, cars in enumerate(comings):
            self.state[q] += cars
            self.came += cars
        come = [0] * len(self.state)
        for (moves, _, _), some in zip(self.town[1], lets):
            for (q, to), many in zip(moves, some):
                cars = min(many, self.state[q])
                self.state[q] -= cars
                if to is None:
                    self.gone += cars
                else:
                    come[to] += cars
        self.state = [cars + more for cars, more in zip(self.state, come)]
        self.look = [0 if there == 0 else max(0, seen + there - then + more)
                     for seen, there, then, more in zip(self.look, self.state, before, wrong)]
        self.frames += 1

    def happen(self, event):
        word = event[0]
        if word == "frame":
            self.frame(event[1], event[2])
        elif word == "lamp":
            self.locks[event[1]].lamp(event[2])
        elif word == "fall":
            self.locks[event[1]] = PlainLock(self.town[1][event[1]])
        elif word == "mute":
            self.mute[event[1]] = event[2]
        elif word == "mode":
            self.modes[event[1]] = event[2]
        else:
            self.state[event[1]] += event[2]
            self.came += event[2]

    def view(self):
        return {"town": self.town, "state": tuple(self.state), "look": tuple(self.look), "frame": self.frames,
                "began": self.began, "came": self.came, "gone": self.gone, "modes": tuple(self.modes),
                "locks": tuple(lock.view() for lock in self.locks), "tales": tuple(map(tuple, self.tales)), "mute": tuple(self.mute)}


def plain_is_mode(crossing, value):
    if type(value) is not tuple or not value or type(value[0]) is not str:
        return False
    if value[0] == "table":
        if len(value) != 2 or type(value[1]) is not tuple or not value[1]:
            return False
        return all(plain_is_choice((99, (crossing,)), (pair,)) for pair in value[1])
    return value[0] in ("look", "dark") and len(value) == 1


def plain_is_event(town, value):
    n, crossings = town
    if type(value) is not tuple or len(value) not in (2, 3) or type(value[0]) is not str:
        return False
    word, rest = value[0], value[1:]
    if word == "frame":
        return (len(rest) == 2 and all(type(row) is tuple and len(row) == n and all(plain_int(many) for many in row) for row in rest)
                and min(rest[0]) >= 0)
    if not plain_int(rest[0]) or rest[0] < 0 or len(rest) != (1 if word == "fall" else 2):
        return False
    if word == "drop":
        return rest[0] < n and plain_int(rest[1]) and rest[1] >= 0
    if rest[0] >= len(crossings):
        return False
    if word == "mute":
        return plain_int(rest[1]) and rest[1] >= 0
    return word in ("fall", "lamp") or word == "mode" and plain_is_mode(crossings[rest[0]], rest[1])


def frame_by_chance(chance, town, most=4):
    wrong = tuple(chance.choice((0, 0, 0, chance.randint(-9, 9))) for _ in range(town[0]))
    return ("frame", row_by_chance(chance, town[0], chance.choice((0, most))), wrong)


def mode_by_chance(chance, town, x):
    word = chance.choice(("look", "look", "dark", "table", "table"))
    if word != "table":
        return (word,)
    return ("table", tuple(choice_by_chance(chance, town)[x] for _ in range(chance.choice((1, 2, 3, 9)))))


def event_by_chance(chance, town, frames=0.6, lamps=0.1):
    """A right event, most often a frame."""
    kind, x = chance.random(), chance.randrange(len(town[1]))
    if kind < frames:
        return frame_by_chance(chance, town)
    if kind < frames + lamps:
        value = (chance.choice(("red", "red", "green")), chance.randrange(len(town[1][x][0]) + 1), chance.choice((False, True)))
        return ("lamp", x, value if chance.random() < 0.9 else chance.choice(ODD_VALUES))
    word = chance.choice(("fall", "mute", "mute", "mode", "mode", "mode", "drop"))
    if word == "fall":
        return ("fall", x)
    if word == "mute":
        return ("mute", x, chance.choice((0, 1, 5, town[1][0][2], 30)))
    if word == "mode":
        return ("mode", x, mode_by_chance(chance, town, x))
    return ("drop", chance.randrange(town[0]), chance.choice((0, 1, 7)))


def script_by_chance(chance, town, many, lamps=0.1):
    return [event_by_chance(chance, town, lamps=lamps) for _ in range(many)]
