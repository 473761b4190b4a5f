"""What carries counts, and what frames do, by plain sums and by cars that are told from one another."""

from fractions import Fraction

from greenheld.leading import leading_capacities, leading_plans
from greenheld.stages import stages
from tests.support import plain_int
from tests.trying import plain_clearing


def pair_of(number):
    number = Fraction(number)
    return (number.numerator, number.denominator)


def pairs_of(numbers):
    return tuple(pair_of(number) for number in numbers)


def number_of(part):
    """The number of a fraction, or of an integer."""
    return Fraction(part) if plain_int(part) else Fraction(*part)


def numbers_of(some):
    return [number_of(part) for part in some]


def plain_is_fraction(value):
    if type(value) is not tuple or len(value) != 2 or not plain_int(value[0]) or not plain_int(value[1]):
        return False
    return value[1] >= 1 and Fraction(*value).denominator == value[1]


def are_plain_fractions(value, many):
    return type(value) is tuple and len(value) == many and all(plain_is_fraction(part) for part in value)


def plain_total(one, other):
    return sum((number_of(a) * number_of(b) for a, b in zip(one, other)), Fraction(0))


def plain_pull(town, prices, c):
    moves = town[1][c][0]
    falls = [max(0, number_of(prices[q]) - (0 if to is None else number_of(prices[to]))) for q, to in moves]
    return max(sum((cars * fall for cars, fall in zip(capacity, falls)), Fraction(0))
               for capacity in leading_capacities(town[1][c]))


def plain_gain(town, counts, prices):
    return plain_total(counts, prices) - sum(plain_pull(town, prices, c) for c in range(len(town[1])))


def are_tables(value, sizes):
    """Whether it is a tuple of tuples of as many fractions as sizes tell."""
    return (type(value) is tuple and len(value) == len(sizes)
            and all(are_plain_fractions(part, size) for part, size in zip(value, sizes)))


def share_sizes(town):
    return [len(leading_plans(crossing)) for crossing in town[1]]


def flow_sizes(town):
    return [len(crossing[0]) for crossing in town[1]]


def has_below(*tables):
    return any(u < 0 for table in tables for part in table for u, _ in part)


def plain_carrying(town, counts, shares, flows, spare=0):
    """The first fault of shares and flows that are to carry the counts, with so much to spare at each queue."""
    for c, part in enumerate(shares):
        if sum(numbers_of(part)) != 1:
            return ("share", c)
    for c, crossing in enumerate(town[1]):
        for i in range(len(crossing[0])):
            lets = sum(number_of(share) * capacity[i]
                       for share, capacity in zip(shares[c], leading_capacities(crossing)))
            if number_of(flows[c][i]) > lets:
                return ("flow", c, i)
    for q in range(town[0]):
        comes, goes = number_of(counts[q]), Fraction(spare)
        for crossing, part in zip(town[1], flows):
            comes += sum(number_of(flow) for move, flow in zip(crossing[0], part) if move[1] == q)
            goes += sum(number_of(flow) for move, flow in zip(crossing[0], part) if move[0] == q)
        if comes > goes:
            return ("queue", q)
    return None


def plain_judge_carried(town, counts, value):
    if type(value) is not tuple or len(value) != 3 or type(value[0]) is not str:
        return ("form",)
    word, one, other = value
    if word == "carried":
        if not are_tables(one, share_sizes(town)) or not are_tables(other, flow_sizes(town)):
            return ("form",)
        return ("below",) if has_below(one, other) else plain_carrying(town, counts, one, other)
    if word != "grows" or not are_plain_fractions(one, town[0]) or not plain_is_fraction(other):
        return ("form",)
    if has_below((one,)):
        return ("below",)
    if sum(numbers_of(one)) != 1:
        return ("sum",)
    return None if number_of(other) > 0 and plain_gain(town, counts, one) == number_of(other) else ("amount",)


def plain_capacity(crossing, plan):
    members = stages(crossing)
    return tuple(sum(ticks - 1 for s, ticks in plan if i in members[s]) for i in range(len(crossing[0])))


def plain_is_plan(crossing, plan):
    members = stages(crossing)
    if type(plan) is not tuple:
        return False
    for pair in plan:
        if type(pair) is not tuple or len(pair) != 2 or not all(plain_int(number) for number in pair):
            return False
        if not 0 <= pair[0] < len(members) or pair[1] < 1:
            return False
    if any(plan[k][0] == plan[k + 1][0] for k in range(len(plan) - 1)):
        return False
    return sum(ticks + plain_clearing(crossing, members[s]) for s, ticks in plan) <= crossing[2]


def plain_is_choice(town, value):
    if type(value) is not tuple or len(value) != len(town[1]):
        return False
    for crossing, pair in zip(town[1], value):
        if type(pair) is not tuple or len(pair) != 2 or not plain_is_plan(crossing, pair[0]):
            return False
        capacity, lets = plain_capacity(crossing, pair[0]), pair[1]
        if type(lets) is not tuple or len(lets) != len(capacity) or not all(plain_int(many) for many in lets):
            return False
        if not all(0 <= many <= most for many, most in zip(lets, capacity)):
            return False
    return True


def plan_by_chance(chance, crossing):
    """Any plan that fits, often not a leading one."""
    members = stages(crossing)
    plan, left = (), crossing[2]
    for _ in range(chance.randint(0, 4)):
        s = chance.randrange(len(members))
        room = left - plain_clearing(crossing, members[s])
        if room < 1 or (plan and plan[-1][0] == s):
            continue
        ticks = chance.randint(1, room)
        plan += ((s, ticks),)
        left = room - ticks
    return plan


def choice_by_chance(chance, town):
    """Any plans that fit, with any lets."""
    pairs = []
    for crossing in town[1]:
        plan = plan_by_chance(chance, crossing)
        if chance.random() < 0.5:
            plan = chance.choice(leading_plans(crossing))
        capacity = plain_capacity(crossing, plan)
        full = chance.random() < 0.5
        pairs.append((plan, tuple(most if full else chance.randint(0, most) for most in capacity)))
    return tuple(pairs)


def row_by_chance(chance, many, most):
    return tuple(chance.choice((0, 0, most, chance.randint(0, most))) for _ in range(many))


class Street:
    """Queues of cars, each of which has a number and tells when it came to where it waits."""

    def __init__(self, town, state):
        self.town = town
        self.made = 0
        self.done = 0
        self.gone = []
        self.waits = []
        self.queues = [[] for _ in range(town[0])]
        self.come(state)

    def come(self, comings):
        for q, many in enumerate(comings):
            for _ in range(many):
                self.queues[q].append((self.made, self.done))
                self.made += 1

    def frame(self, comings, choice):
        """One frame, car by car; returns how many cars each movement leads."""
        self.come(comings)
        arrivals = [[] for _ in range(self.town[0])]
        told = []
        for crossing, (_, lets) in zip(self.town[1], choice):
            led = [0] * len(crossing[0])
            for i, (q, to) in enumerate(crossing[0]):
                while led[i] < lets[i] and self.queues[q]:
                    car, since = self.queues[q].pop(0)
                    led[i] += 1
                    self.waits.append((q, self.done - since + 1))
                    if to is None:
                        self.gone.append(car)
                    else:
                        arrivals[to].append((car, self.done + 1))
            told.append(tuple(led))
        for q, cars in enumerate(arrivals):
            self.queues[q].extend(cars)
        self.done += 1
        return tuple(told)

    def state(self):
        return tuple(len(queue) for queue in self.queues)

    def cars(self):
        """The numbers of all cars, gone or there."""
        return sorted(self.gone + [car for queue in self.queues for car, _ in queue])


def wide_town(chance, length=12, most_plans=80):
    """A town of three crossings, eight queues, six movements each, and no more leading plans than told."""
    while True:
        queues = list(range(8))
        chance.shuffle(queues)
        crossings = []
        for x in range(3):
            pairs = [(q, to) for q in queues[x::3] for to in [None] + queues if to != q]
            moves = tuple(chance.sample(pairs, 6))
            crossed = tuple((i, j, chance.randint(0, 2), chance.randint(0, 2))
                            for i in range(6) for j in range(i + 1, 6) if chance.random() < 0.6)
            crossings.append((moves, crossed, length))
        town = (8, tuple(crossings))
        if max(share_sizes(town)) <= most_plans:
            return town
