"""Fractions, and systems of rows: what keeps them, what bars them, and the most that keeps them."""

from math import gcd, lcm

from greenheld.forms import is_tuple_of, is_whole

NOUGHT = (0, 1)


def fraction(u, e):
    """The fraction that is u over e."""
    shared = gcd(u, e)
    if e < 0:
        shared = -shared
    return (u // shared, e // shared)


def added(x, y):
    """x and y."""
    return fraction(x[0] * y[1] + y[0] * x[1], x[1] * y[1])


def lessened(x, y):
    """x less y."""
    return fraction(x[0] * y[1] - y[0] * x[1], x[1] * y[1])


def negative(x):
    """0 less x."""
    return (-x[0], x[1])


def multiplied(x, y):
    """x times y."""
    return fraction(x[0] * y[0], x[1] * y[1])


def divided(x, y):
    """x over y."""
    return fraction(x[0] * y[1], x[1] * y[0])


def compared(x, y):
    """-1, 0 or 1: whether x is less than y, y, or greater."""
    mine, its = x[0] * y[1], y[0] * x[1]
    if mine == its:
        return 0
    return -1 if mine < its else 1


def summed(some):
    """The sum of the fractions."""
    total = NOUGHT
    for part in some:
        total = added(total, part)
    return total


def is_fraction(value):
    """Whether it is a fraction."""
    if not is_tuple_of(value, 2) or not all([is_whole(number) for number in value]):
        return False
    return value[1] >= 1 and gcd(value[0], value[1]) == 1


def are_fractions(value, many):
    """Whether it is a tuple of so many fractions."""
    return is_tuple_of(value, many) and all([is_fraction(part) for part in value])


def are_from_nought(value, many):
    """Whether it is a tuple of so many fractions from 0 on."""
    return are_fractions(value, many) and first_below(value) is None


def first_below(some):
    """The least place with a fraction below 0, None if there is none."""
    for k, part in enumerate(some):
        if part[0] < 0:
            return k
    return None


def paired(one, other):
    """The sum of the products of two tuples of fractions, place by place."""
    return summed([multiplied(mine, its) for mine, its in zip(one, other)])


def added_rows(n, rows, times):
    """Each row so many times, all added: the tuple of its n numbers."""
    return tuple([paired([row[j] for row in rows], times) for j in range(n)])


def judge_kept(n, rows, rights, value):
    """None if it keeps the system, else the first fault."""
    if not are_fractions(value, n):
        return ("form",)
    below = first_below(value)
    if below is not None:
        return ("below", below)
    for i, row in enumerate(rows):
        if compared(paired(row, value), rights[i]) > 0:
            return ("row", i)
    return None


def judge_barred(n, rows, rights, value):
    """None if it bars the system, else the first fault."""
    if not are_fractions(value, len(rows)):
        return ("form",)
    below = first_below(value)
    if below is not None:
        return ("below", below)
    place = first_below(added_rows(n, rows, value))
    if place is not None:
        return ("place", place)
    return None if paired(rights, value)[0] < 0 else ("right",)


def has_answer_form(value):
    """Whether it is a tuple of a word of most_of and as many members, an amount being a fraction."""
    if not isinstance(value, tuple) or value == ():
        return False
    if value[0] == "most":
        return len(value) == 4 and is_fraction(value[1])
    return len(value) == 2 and value[0] == "bars" or len(value) == 3 and value[0] == "endless"


def is_way(n, rows, worth, value):
    """Whether going on this way for ever keeps the rows, and raises the worth."""
    if not are_from_nought(value, n) or paired(worth, value)[0] <= 0:
        return False
    return all([paired(row, value)[0] <= 0 for row in rows])


def are_rates(n, rows, rights, worth, amount, value):
    """Whether the rows, so many times, show that no worth is above the amount."""
    if not are_from_nought(value, len(rows)) or paired(rights, value) != amount:
        return False
    return all([compared(mine, its) >= 0 for mine, its in zip(added_rows(n, rows, value), worth)])


def judge_most(n, rows, rights, worth, value):
    """None if it is a right answer of most_of, else the first fault."""
    if not has_answer_form(value):
        return ("form",)
    if value[0] == "bars":
        fault = judge_barred(n, rows, rights, value[1])
        return None if fault is None else ("barred", fault)
    told = value[1] if value[0] == "endless" else value[2]
    fault = judge_kept(n, rows, rights, told)
    if fault is not None:
        return ("kept", fault)
    if value[0] == "endless":
        return None if is_way(n, rows, worth, value[2]) else ("way",)
    if paired(worth, told) != value[1]:
        return ("amount",)
    return None if are_rates(n, rows, rights, worth, value[1], value[3]) else ("rates",)


# The simplex method, over integers. A LINE is a list of integers without a common divisor: an
# equation's numbers at PLACES, which are the n of the system, a slack for each row, and the worth;
# and, behind them, its right side. Each row makes a line, and the last one tells what the worth is.
# The BASIS has, for each line, a place at which it alone has a number, above 0. All places that are
# not in the basis are taken to be 0, so the line tells what stands at the place that is.


def shortened(line):
    """The line without the common divisor of its numbers."""
    shared = 0
    for number in line:
        shared = gcd(shared, number)
        if shared == 1:
            return line
    return [number // shared for number in line]


def line_of(numbers, right, slots, k):
    """Line number k, of so many, made of fractions: the numbers, its own slack, the right side."""
    scale = right[1]
    for number in numbers:
        scale = lcm(scale, number[1])
    line = [number[0] * (scale // number[1]) for number in numbers]
    slacks = [0] * slots
    slacks[k] = scale
    return shortened(line + slacks + [right[0] * (scale // right[1])])


def lines_of(rows, rights, worth):
    """The lines of the system and of the worth."""
    slots = len(rows) + 1
    lines = [line_of(row, rights[k], slots, k) for k, row in enumerate(rows)]
    return lines + [line_of([negative(part) for part in worth], NOUGHT, slots, slots - 1)]


def cleared(line, by, place):
    """The line with a multiple of another one, above 0 at this place, so added that the place goes."""
    shared = gcd(line[place], by[place])
    times, less = by[place] // shared, line[place] // shared
    return shortened([mine * times - its * less for mine, its in zip(line, by)])


def exchange(lines, basis, k, place):
    """Makes the place stand in line k alone."""
    if lines[k][place] < 0:
        lines[k] = [-number for number in lines[k]]
    for i in range(len(lines)):
        if i != k and lines[i][place] != 0:
            lines[i] = cleared(lines[i], lines[k], place)
    basis[k] = place


def steepest_place(line):
    """The place whose rise raises what stands in this line alone the most, None if there is none."""
    least = min(line[:-2], default=0)
    return line.index(least) if least < 0 else None


def goes_first(one, other, marks, place):
    """Whether line one, as the place rises, comes to its end ahead of line other."""
    for mark in marks:
        mine, its = one[mark] * other[place], other[mark] * one[place]
        if mine != its:
            return mine < its
    return False


def first_stop(lines, marks, k, place):
    """The number of the line, of those ahead of k, that stops the rise of the place first; None if none does."""
    first = None
    for i in range(k):
        if lines[i][place] > 0 and (first is None or goes_first(lines[i], lines[first], marks, place)):
            first = i
    return first


def marks_of(basis, k):
    """Where lines ahead of k are compared: at right sides, and then so that no basis can come again."""
    return [-1] + basis[:k]


def keep_all(lines, basis):
    """Exchanges until no right side but the last is below 0; returns a line that can't be so, None without one."""
    for k in range(len(lines) - 1):
        marks = marks_of(basis, k)
        while lines[k][-1] < 0:
            place = steepest_place(lines[k])
            if place is None:
                return k
            stop = first_stop(lines, marks, k, place)
            exchange(lines, basis, k if stop is None else stop, place)
    return None


def raise_worth(lines, basis):
    """Exchanges until the worth is the greatest; returns a place that can rise for ever, None without one."""
    k = len(lines) - 1
    marks = marks_of(basis, k)
    place = steepest_place(lines[k])
    while place is not None:
        stop = first_stop(lines, marks, k, place)
        if stop is None:
            return place
        exchange(lines, basis, stop, place)
        place = steepest_place(lines[k])
    return None


def told_of(n, lines, basis):
    """The numbers at the n places."""
    told = [NOUGHT] * n
    for line, place in zip(lines, basis):
        if place < n:
            told[place] = fraction(line[-1], line[place])
    return tuple(told)


def way_of(n, lines, basis, rising):
    """How the n places change while one place rises."""
    way = [NOUGHT] * n
    for line, place in zip(lines, basis):
        if place < n:
            way[place] = fraction(-line[rising], line[place])
    if rising < n:
        way[rising] = (1, 1)
    return tuple(way)


def most_of(n, rows, rights, worth):
    """The greatest worth of what keeps the system, or what bars it, or a way to endless worth."""
    lines = lines_of(rows, rights, worth)
    basis = list(range(n, n + len(lines)))
    barred = keep_all(lines, basis)
    if barred is not None:
        return ("bars", tuple([(number, 1) for number in lines[barred][n:-2]]))
    rising = raise_worth(lines, basis)
    told = told_of(n, lines, basis)
    if rising is not None:
        return ("endless", told, way_of(n, lines, basis, rising))
    last = lines[-1]
    rates = tuple([fraction(number, last[-2]) for number in last[n:-2]])
    return ("most", fraction(last[-1], last[-2]), told, rates)


def kept_or_barred(n, rows, rights):
    """What keeps the system, or what bars it."""
    found = most_of(n, rows, rights, (NOUGHT,) * n)
    return found if found[0] == "bars" else ("keeps", found[2])
