"""What several tests need: values of all kinds, values a little changed, towns by chance, plain tries."""

import random
from itertools import combinations


def deep(value, times):
    """The value within so many tuples, lists and dicts."""
    for k in range(times):
        value = ((value,), [value], {"in": value})[k % 3]
    return value


# Of all kinds that [0.3] calls any value.
ODD_VALUES = (
    None, True, False, 0, 1, -1, 2, 3, 12, 13, 24, 25, 30, 31, 120, 121, 10 ** 9, 10 ** 60 - 1, 1 - 10 ** 60,
    "", "0", "1", "form", "out", "a\tb\n~ ", "x" * 200, (), (0,), (1,), (0, 1), (1, 0), (0, 0), (None,), (True,),
    ((),), ((0, 1),), ((0, 1), (1, 1)), [], [0], [(0, 1)], [[]], {}, {0: 1}, {"a": [1, {}]}, {(1, (2,)): None},
    deep(0, 14), deep((), 14), deep([], 15), (None, True, "x", 5, (), [], {}),
)


def within(value):
    """The value with one thing within it changed, in many ways: a list of such values."""
    found = []
    if isinstance(value, (tuple, list)):
        kind = type(value)
        other = list if kind is tuple else tuple
        found.append(other(value))
        for k, part in enumerate(value):
            ahead, behind = list(value[:k]), list(value[k + 1:])
            found.append(kind(ahead + behind))
            found.append(kind(ahead + [part, part] + behind))
            if behind:
                found.append(kind(ahead + [behind[0], part] + behind[1:]))
            found.extend(kind(ahead + [changed] + behind) for changed in within(part))
            found.extend(kind(ahead + [odd] + behind) for odd in (None, True, False, -1, 0, 1, "", (), []))
    elif isinstance(value, int) and not isinstance(value, bool):
        found.extend([value + 1, value - 1, -value, bool(value), str(value), (value,), None, 10 ** 60 - 1])
    elif value is None:
        found.extend([0, False, "", ()])
    elif isinstance(value, str):
        found.extend([value + "x", value[:-1], None, (value,)])
    return found


def same(one, other):
    """Whether two values are equal and of the same kinds throughout: 1 is not True, a list is no tuple."""
    if type(one) is not type(other):
        return False
    if isinstance(one, (tuple, list)):
        return len(one) == len(other) and all(same(a, b) for a, b in zip(one, other))
    if isinstance(one, dict):
        return list(one) == list(other) and all(same(one[k], other[k]) for k in one)
    return one == other


def plain_int(value):
    return type(value) is int


def crossing_by_chance(chance, many, length, most=3, share=0.5):
    """A crossing of so many movements, all out of queues of their own."""
    crossed = tuple((i, j, chance.randint(0, most), chance.randint(0, most))
                    for i, j in combinations(range(many), 2) if chance.random() < share)
    return (tuple((q, None) for q in range(many)), crossed, length)


def town_by_chance(chance, most_queues=6, most_crossings=3, length=12):
    """A right town."""
    n = chance.randint(1, most_queues)
    many = chance.randint(1, min(n, most_crossings))
    queues = list(range(n))
    chance.shuffle(queues)
    crossings = []
    for x in range(many):
        mine = queues[x::many]
        pairs = [(q, to) for q in mine for to in [None] + list(range(n)) if to != q]
        moves = tuple(chance.sample(pairs, min(len(pairs), chance.randint(1, 4))))
        crossed = tuple((i, j, chance.randint(0, 4), chance.randint(0, 4))
                        for i, j in combinations(range(len(moves)), 2) if chance.random() < 0.5)
        crossings.append((moves, crossed, length))
    return (n, tuple(crossings))


def towns(many, seed=1, **more):
    chance = random.Random(seed)
    return [town_by_chance(chance, **more) for _ in range(many)]


def subsets(many):
    """All ascending tuples of numbers below many."""
    return [some for k in range(many + 1) for some in combinations(range(many), k)]


EAST = (((0, 2), (1, None), (1, 2)), ((0, 1, 2, 3), (0, 2, 1, 1)), 12)
TOWN = (4, (EAST, (((2, None), (3, 2)), ((0, 1, 0, 0),), 12)))
