"""A plain interlock that remembers all it has shown, and happenings by chance."""

from itertools import combinations

from tests.support import ODD_VALUES, crossing_by_chance, plain_int


def waits(crossing, i, j):
    """How many ticks j waits behind the end of green of i; None if they don't cross."""
    for one, other, ahead, behind in crossing[1]:
        if (one, other) == (i, j):
            return ahead
        if (other, one) == (i, j):
            return behind
    return None


def widest(crossing):
    return max([0] + [ticks for row in crossing[1] for ticks in row[2:]])


def is_greens(crossing, value):
    """Whether it is an ascending tuple of movements, each once."""
    return (type(value) is tuple and all(plain_int(i) and 0 <= i < len(crossing[0]) for i in value)
            and list(value) == sorted(set(value)))


def plain_is_wish(crossing, value):
    if type(value) is not tuple or len(value) != 3:
        return False
    return (plain_int(value[0]) and value[0] >= 1 and is_greens(crossing, value[1])
            and plain_int(value[2]) and 1 <= value[2] <= 12)


class PlainLock:
    """An interlock by its words: all greens since its beginning, and what it was told."""

    def __init__(self, crossing):
        self.crossing = crossing
        self.many = len(crossing[0])
        self.shown = []
        self.unseen = {}
        self.dark, self.faint = set(), set()
        self.taken, self.wished, self.until = 0, (), 0

    def last(self, i):
        """The last tick in which it was green, or may have been taken to be so; None if never."""
        ticks = [t for t, row in enumerate(self.shown, 1) if i in row]
        return max(ticks + ([self.unseen[i]] if i in self.unseen else []), default=None)

    def wish(self, value):
        if plain_is_wish(self.crossing, value) and value[0] > self.taken:
            self.taken, self.wished, self.until = value[0], value[1], len(self.shown) + value[2]

    def lamp(self, value):
        if type(value) is not tuple or len(value) != 3 or value[0] not in ("red", "green") or type(value[2]) is not bool:
            return
        colour, i, lit = value
        if not plain_int(i) or not 0 <= i < self.many:
            return
        out = self.dark if colour == "red" else self.faint
        if colour == "red" and lit and i in out and not (self.shown and i in self.shown[-1]):
            self.unseen[i] = len(self.shown)
        if lit:
            out.discard(i)
        else:
            out.add(i)

    def foes(self, i):
        return [j for j in range(self.many) if waits(self.crossing, i, j) is not None]

    def tick(self):
        t = len(self.shown) + 1
        wanted = self.wished if t <= self.until else ()
        ahead = self.shown[-1] if self.shown else ()
        free = [i for i in wanted if i not in self.faint and not any(j in self.dark for j in self.foes(i))]
        now = [i for i in free if i in ahead]
        for i in free:
            if i not in now and t > widest(self.crossing) and not any(j in now for j in self.foes(i)):
                if all(self.last(j) is None or t - self.last(j) >= waits(self.crossing, j, i) + 1 for j in self.foes(i)):
                    now.append(i)
        self.shown.append(tuple(sorted(now)))
        return self.shown[-1]

    def view(self):
        """The fields that [10.2] tells."""
        greens = self.shown[-1] if self.shown else ()
        ended = tuple((i, self.last(i)) for i in range(self.many) if i not in greens and self.last(i) is not None)
        return {"time": len(self.shown), "greens": greens, "ended": ended, "dark": tuple(sorted(self.dark)),
                "faint": tuple(sorted(self.faint)), "taken": self.taken, "wished": self.wished, "until": self.until}


def greens_by_chance(chance, many, share=0.5):
    return tuple(i for i in range(many) if chance.random() < share)


def free_greens(chance, crossing):
    """Greens no two of which cross."""
    order = list(range(len(crossing[0])))
    chance.shuffle(order)
    found = []
    for i in order:
        if chance.random() < 0.8 and all(waits(crossing, i, j) is None for j in found):
            found.append(i)
    return tuple(sorted(found))


def happenings_by_chance(chance, crossing, many, lamps=0.1, falls=0.02):
    """Ticks, wishes that come doubled, late and broken, lamps told out and lit again, and falls."""
    found, number, movements = [], 0, len(crossing[0])
    while len(found) < many:
        kind = chance.random()
        if kind < lamps:
            value = (chance.choice(("red", "red", "green")), chance.randint(-1, movements), chance.choice((False, True, True, 1)))
            found.append(("lamp", value if chance.random() < 0.9 else chance.choice(ODD_VALUES)))
        elif kind < lamps + falls:
            found.append(("fall",))
        elif kind < lamps + falls + 0.3:
            number += chance.choice((1, 1, 1, 0, 3))
            late = chance.choice((0, 0, 0, 0, 2))
            greens = free_greens(chance, crossing) if chance.random() < 0.5 else greens_by_chance(chance, movements)
            value = (number - late, greens, chance.choice((1, 2, 3, 12, chance.randint(0, 13))))
            if chance.random() < 0.1:
                value = chance.choice((list(value), value[:2], (value[0], list(greens), 3), (True,) + value[1:]) + ODD_VALUES)
            found.extend([("wish", value)] * chance.choice((1, 1, 1, 2)))
        else:
            found.append(("tick",))
    return found


def crossings(chance, many):
    """Crossings of one to six movements, with clearances of many kinds."""
    return [crossing_by_chance(chance, chance.randint(1, 6), chance.randint(2, 12), most=chance.choice((0, 1, 3, 12)),
                               share=chance.choice((0, 0.3, 0.6, 1))) for _ in range(many)]


def all_greens(many):
    return [greens for size in range(many + 1) for greens in combinations(range(many), size)]
