"""[8.1] to [8.8]: the controller that looks, and what it holds."""

import random
import unittest
from fractions import Fraction
from math import ceil

from greenheld.frames import frame, is_choice, still_choice
from greenheld.leading import leading_capacities, leading_plans
from greenheld.looking import (allowed_squares, calmest, cars_in, fall_constant, frames_till, judge_looked,
                               judge_looked_run, look_falls, looked, looked_run, most_in, most_out, pressures,
                               queue_bound, same_look, scaled, squares_of, steady)
from greenheld.slack import slack_of
from tests.plain import (Street, choice_by_chance, number_of, pair_of, plain_is_choice, row_by_chance, wide_town)
from tests.support import EAST, ODD_VALUES, TOWN, plain_int, same, towns, within
from tests.test_flows import PLAIN, SHUT

FULL = ((((0, 5),), (4, 0)),)


def plain_falls(town, state):
    return [[max(0, state[q] - (state[to] if to is not None else 0)) for q, to in crossing[0]] for crossing in town[1]]


def plain_pressures(town, state):
    return tuple(tuple(sum(a * b for a, b in zip(capacity, falls)) for capacity in leading_capacities(crossing))
                 for crossing, falls in zip(town[1], plain_falls(town, state)))


def plain_lets(capacity, falls):
    return tuple(many if fall > 0 else 0 for many, fall in zip(capacity, falls))


def plain_looked(town, state):
    pairs = []
    for crossing, falls, pressed in zip(town[1], plain_falls(town, state), plain_pressures(town, state)):
        k = min(k for k in range(len(pressed)) if pressed[k] == max(pressed))
        pairs.append((leading_plans(crossing)[k], plain_lets(leading_capacities(crossing)[k], falls)))
    return tuple(pairs)


def plain_judge_looked(town, state, value):
    if not plain_is_choice(town, value):
        return ("form",)
    told = []
    for crossing, falls, pressed in zip(town[1], plain_falls(town, state), plain_pressures(town, state)):
        told.append({leading_plans(crossing)[k]: plain_lets(leading_capacities(crossing)[k], falls)
                     for k in range(len(pressed)) if pressed[k] == max(pressed)})
    for x, (plan, _) in enumerate(value):
        if plan not in told[x]:
            return ("plan", x)
    for x, (plan, lets) in enumerate(value):
        for i, many in enumerate(lets):
            if many != told[x][plan][i]:
                return ("lets", x, i)
    return None


def plain_constant(town, counts):
    whole = 0
    for q in range(town[0]):
        out, into = 0, 0
        for crossing in town[1]:
            capacities = leading_capacities(crossing)
            out = max([out] + [sum(many for (start, _), many in zip(crossing[0], capacity) if start == q)
                               for capacity in capacities])
            into += max(sum(many for (_, to), many in zip(crossing[0], capacity) if to == q) for capacity in capacities)
        whole += out ** 2 + (counts[q] + into + out) ** 2
    return whole


def states_by_chance(chance, town):
    return [(0,) * town[0], row_by_chance(chance, town[0], 3), row_by_chance(chance, town[0], 40),
            (chance.randint(1, 9),) * town[0], row_by_chance(chance, town[0], 10 ** 6)]


def slack_towns(many, seed):
    """Tuples of a town, counts, and their slack."""
    chance = random.Random(seed)
    found = []
    while len(found) < many:
        for town in towns(10, seed=chance.randint(0, 10 ** 9)):
            counts = row_by_chance(chance, town[0], chance.choice((0, 1, 1, 3)))
            told = slack_of(town, counts)
            if told is not None:
                found.append((town, counts, told[1]))
    return found


def comings_within(chance, counts, frames):
    kind = chance.random()
    return [counts if kind < 0.3 else tuple(chance.choice((0, count, chance.randint(0, count))) for count in counts)
            for _ in range(frames)]


class Looked(unittest.TestCase):
    def test_by_plain_sums(self):
        chance = random.Random(1)
        for town in towns(80, seed=2) + [SHUT, TOWN]:
            for state in states_by_chance(chance, town):
                self.assertTrue(same(look_falls(town, state), tuple(map(tuple, plain_falls(town, state)))))
                self.assertTrue(same(pressures(town, state), plain_pressures(town, state)))
                told = looked(town, state)
                self.assertTrue(same(told, plain_looked(town, state)))
                self.assertTrue(is_choice(town, told))
                self.assertIsNone(judge_looked(town, state, told))

    def test_states_without_cars(self):
        for town in towns(20, seed=3) + [TOWN]:
            empty = (0,) * town[0]
            self.assertEqual(looked(town, empty), tuple((leading_plans(crossing)[0], (0,) * len(crossing[0]))
                                                        for crossing in town[1]))
            self.assertEqual(calmest(town, empty), tuple(range(len(town[1]))))

    def test_equal_pressures_of_several_plans(self):
        self.assertEqual(leading_plans(PLAIN[1][0]), (((0, 2), (1, 2)), ((0, 5),), ((1, 5),)))
        self.assertEqual(pressures(PLAIN, (3, 3)), ((6, 12, 12),))
        self.assertEqual(looked(PLAIN, (3, 3)), ((((0, 5),), (4, 0)),))

    def test_falls_of_just_0(self):
        town = (2, ((((0, 1), (1, None)), (), 4),))
        self.assertEqual([look_falls(town, state) for state in ((3, 3), (4, 3), (3, 4), (0, 0))],
                         [((0, 3),), ((1, 3),), ((0, 4),), ((0, 0),)])
        self.assertEqual([looked(town, state)[0][1] for state in ((3, 3), (4, 3), (3, 4), (2, 0), (0, 0))],
                         [(0, 3), (3, 3), (0, 3), (3, 0), (0, 0)])

    def test_it_looks_ahead_of_those_that_come(self):
        self.assertEqual(looked_run(PLAIN, (0, 1), [(100, 0)]), [(((((1, 5),), (0, 4)),), (100, 0))])

    def test_scaled_and_same_look(self):
        chance = random.Random(4)
        for town in towns(40, seed=5):
            for state in states_by_chance(chance, town):
                m = chance.randint(1, 50)
                self.assertTrue(same(scaled(state, m), tuple(m * cars for cars in state)))
                self.assertIs(same_look(town, state, scaled(state, m)), True)
                other = row_by_chance(chance, town[0], 9)
                self.assertIs(same_look(town, state, other), plain_looked(town, state) == plain_looked(town, other))

    def test_calmest(self):
        chance = random.Random(6)
        for town in towns(40, seed=7):
            for state in states_by_chance(chance, town) + [row_by_chance(chance, town[0], 1)]:
                told = tuple(x for x, falls in enumerate(plain_falls(town, state)) if not any(falls))
                self.assertEqual(calmest(town, state), told)
                self.assertTrue(all(not any(looked(town, state)[x][1]) for x in told))


class Squares(unittest.TestCase):
    def test_sums(self):
        self.assertEqual([squares_of((3, 1)), squares_of(()), squares_of((10 ** 6,)), cars_in((3, 1)), cars_in(())],
                         [10, 0, 10 ** 12, 4, 0])

    def test_most_out_and_in(self):
        town = (4, (EAST, (((2, None), (3, 2)), ((0, 1, 0, 0),), 12)))
        # Both movements out of queue 1 stand in one stage; of the two of the other crossing only one goes.
        self.assertEqual([most_out(town), most_in(town)], [(9, 16, 11, 11), (0, 0, 9 + 11, 0)])
        self.assertEqual([most_out(SHUT), most_in(SHUT)], [(6, 6, 0, 7, 7), (0, 0, 6, 7, 7)])

    def test_constants_by_plain_sums(self):
        chance = random.Random(8)
        for town in towns(80, seed=9) + [SHUT]:
            counts = row_by_chance(chance, town[0], chance.choice((0, 3, 10 ** 6)))
            most = plain_constant(town, counts)
            self.assertEqual(fall_constant(town, counts), most)
            self.assertTrue(plain_int(fall_constant(town, counts)))
            e = pair_of(Fraction(chance.randint(1, 40), chance.randint(1, 9)))
            state = row_by_chance(chance, town[0], 50)
            squares = sum(cars ** 2 for cars in state)
            for slack in (e, (0, 1)):
                self.assertTrue(same(allowed_squares(town, counts, slack, state),
                                     pair_of(squares + most - 2 * number_of(slack) * sum(state))))
            few = ceil((most + 1) / (2 * number_of(e)))
            self.assertTrue(same(steady(town, counts, e), (few, few ** 2 + most)))
            self.assertTrue(2 * number_of(e) * few >= most + 1 > 2 * number_of(e) * (few - 1))
            self.assertEqual(frames_till(town, counts, e, state), max(0, squares - few ** 2 - most))
            bound = queue_bound(town, counts, e)
            self.assertTrue(bound ** 2 <= few ** 2 + most < (bound + 1) ** 2)

    def test_slack_with_great_lower_parts(self):
        for e in ((1, 999999), (999999, 1), (999998, 999999), (1, 1)):
            few, most = steady(PLAIN, (1, 1), e)
            self.assertEqual(few, ceil(Fraction(83, 2) / number_of(e)))
            self.assertEqual(most, few ** 2 + 82)
        self.assertEqual(steady(PLAIN, (1, 1), (83, 2)), (1, 83))
        self.assertEqual(steady(PLAIN, (1, 1), (41, 1)), (2, 86))

    def test_squares_just_at_and_just_above(self):
        # V is 1846: 42 times 42 and 9 times 9 and 1, and one more.
        self.assertEqual(steady(PLAIN, (1, 1), (1, 1)), (42, 1846))
        self.assertEqual([frames_till(PLAIN, (1, 1), (1, 1), state) for state in ((0, 0), (35, 25), (36, 23), (0, 43), (39, 18))],
                         [0, 4, 0, 3, 0])
        self.assertEqual([squares_of((39, 18)), squares_of((35, 25))], [1845, 1850])
        town = (3, PLAIN[1])
        few, most = steady(town, (1, 1, 0), (1, 1))
        self.assertEqual((few, most), (42, 1846))
        self.assertEqual([frames_till(town, (1, 1, 0), (1, 1), state) for state in ((39, 18, 1), (39, 18, 2), (39, 19, 0))],
                         [0, 3, 36])

    def test_squares_fall(self):
        chance = random.Random(10)
        for town, counts, e in slack_towns(150, seed=11):
            for state in states_by_chance(chance, town):
                comings = comings_within(chance, counts, 1)[0]
                for choice in (looked(town, state), other_look(chance, town, state)):
                    behind = frame(town, state, comings, choice)
                    allowed = plain_constant(town, counts) + sum(cars ** 2 for cars in state) - 2 * number_of(e) * sum(state)
                    self.assertLessEqual(sum(cars ** 2 for cars in behind), allowed)
                    self.assertEqual(number_of(allowed_squares(town, counts, e, state)), allowed)

    def test_held_behind_a_told_time(self):
        chance = random.Random(12)
        many = 0
        for town, counts, e in slack_towns(150, seed=13):
            if e[0] == 0:
                continue
            many += 1
            most = steady(town, counts, e)[1]
            near = int(most ** 0.5)
            for state in (row_by_chance(chance, town[0], 60), (near + chance.randint(0, 5),) + (0,) * (town[0] - 1),
                          tuple(chance.randint(0, near + 9) for _ in range(town[0]))):
                squares = sum(cars ** 2 for cars in state)
                for _, behind in looked_run(town, state, comings_within(chance, counts, 30)):
                    then = sum(cars ** 2 for cars in behind)
                    self.assertTrue(then <= most if squares <= most else then <= squares - 1)
                    if then <= most:
                        self.assertLessEqual(max(behind), queue_bound(town, counts, e))
                    squares = then
        self.assertGreater(many, 50)

    def test_frames_till_by_a_run(self):
        start = (60, 40)
        frames = frames_till(PLAIN, (1, 1), (1, 1), start)
        self.assertEqual(frames, 3600 + 1600 - 1846)
        states = [behind for _, behind in looked_run(PLAIN, start, [(1, 1)] * 200)]
        first = min(k for k, state in enumerate(states, 1) if squares_of(state) <= 1846)
        self.assertLessEqual(first, frames)
        self.assertTrue(all(squares_of(state) <= 1846 for state in states[first:]))


def other_look(chance, town, state):
    """Any plans of the greatest pressures, with the lets that go with them."""
    pairs = []
    for crossing, falls, pressed in zip(town[1], plain_falls(town, state), plain_pressures(town, state)):
        k = chance.choice([k for k in range(len(pressed)) if pressed[k] == max(pressed)])
        pairs.append((leading_plans(crossing)[k], plain_lets(leading_capacities(crossing)[k], falls)))
    return tuple(pairs)


class Judged(unittest.TestCase):
    TWO = (4, ((((0, None), (1, None)), ((0, 1, 1, 1),), 6), (((2, None), (3, 2)), ((0, 1, 1, 1),), 6)))

    def test_faults(self):
        plan = ((0, 5),)
        for value, fault in ((FULL, None), (list(FULL), ("form",)), (FULL * 2, ("form",)), ((), ("form",)), (None, ("form",)),
                             (((plan, (5, 0)),), ("form",)), (((plan, (True, 0)),), ("form",)), (((plan, [4, 0]),), ("form",)),
                             (((((0, 6),), (4, 0)),), ("form",)), (((((1, 5),), (0, 4)),), ("plan", 0)),
                             (((((0, 4),), (3, 0)),), ("plan", 0)), (((((0, 2), (1, 2)), (1, 1)),), ("plan", 0)),
                             ((((), (0, 0)),), ("plan", 0)), (((plan, (3, 0)),), ("lets", 0, 0)), (((plan, (0, 0)),), ("lets", 0, 0))):
            self.assertEqual(judge_looked(PLAIN, (3, 1), value), fault, value)
        # The same capacity by a plan of more need, or of another sequence, is no leading plan.
        self.assertEqual([judge_looked(PLAIN, (0, 0), ((plan, (0, 0)),)) for plan in (
            ((0, 2), (1, 2)), ((1, 2), (0, 2)), ((0, 3), (1, 1)))], [None, ("plan", 0), ("plan", 0)])

    def test_plan_of_any_crossing_comes_ahead_of_lets_of_all(self):
        state = (3, 1, 5, 2)
        right = looked(self.TWO, state)
        self.assertEqual(right, ((((0, 5),), (4, 0)), (((0, 5),), (4, 0))))
        bad_lets, bad_plan = (((0, 5),), (1, 0)), (((1, 5),), (0, 0))
        self.assertEqual([judge_looked(self.TWO, state, value) for value in (
            right, (bad_lets, bad_plan), (bad_plan, bad_plan), (bad_plan, bad_lets), (bad_lets, bad_lets), (right[0], bad_lets))],
            [None, ("plan", 1), ("plan", 0), ("plan", 0), ("lets", 0, 0), ("lets", 1, 0)])

    def test_any_plan_of_the_greatest_pressure(self):
        plans = leading_plans(PLAIN[1][0])
        for k, plan in enumerate(plans):
            lets = leading_capacities(PLAIN[1][0])[k]
            self.assertEqual(judge_looked(PLAIN, (0, 0), ((plan, (0, 0)),)), None)
            self.assertEqual(judge_looked(PLAIN, (3, 3), ((plan, lets),)), None if max(lets) == 4 else ("plan", 0))
            self.assertEqual(judge_looked(PLAIN, (0, 0), ((plan, lets),)), ("lets", 0, 0 if lets[0] else 1))

    def test_choices_by_chance(self):
        chance = random.Random(14)
        for town in towns(40, seed=15):
            for state in states_by_chance(chance, town):
                values = [choice_by_chance(chance, town), other_look(chance, town, state), still_choice(town)]
                values += [tuple(chance.choice(pairs) for pairs in zip(*values))]
                for value in values:
                    self.assertTrue(same(judge_looked(town, state, value), plain_judge_looked(town, state, value)), value)

    def test_what_is_near(self):
        chance = random.Random(16)
        for town in towns(12, seed=17, length=6):
            state = row_by_chance(chance, town[0], 4)
            for value in within(looked(town, state)):
                self.assertTrue(same(judge_looked(town, state, value), plain_judge_looked(town, state, value)), value)

    def test_any_value(self):
        for odd in ODD_VALUES:
            for value in (odd, (odd,), ((odd, (4, 0)),), ((((0, 5),), odd),), ((((0, odd),), (4, 0)),), ((((0, 5),), (4, odd)),)):
                self.assertTrue(same(judge_looked(PLAIN, (3, 1), value), plain_judge_looked(PLAIN, (3, 1), value)), value)


def plain_judge_run(town, state, rows, value):
    if type(value) not in (list, tuple) or len(value) != len(rows):
        return ("form",)
    if any(type(pair) is not tuple or len(pair) != 2 for pair in value):
        return ("form",)
    street = Street(town, state)
    for k, (choice, behind) in enumerate(value):
        fault = plain_judge_looked(town, street.state(), choice)
        if fault:
            return ("choice", k, fault)
        street.frame(rows[k], choice)
        if not same(behind, street.state()):
            return ("state", k)
    return None


class Runs(unittest.TestCase):
    ROWS = [(1, 1), (1, 1)]

    def judged(self, value, rows=ROWS, state=(6, 3)):
        return judge_looked_run(PLAIN, (1, 1), (1, 1), state, rows, value)

    def test_against_a_plain_stepping(self):
        chance = random.Random(18)
        for town in towns(40, seed=19) + [SHUT]:
            for state in states_by_chance(chance, town):
                rows = [row_by_chance(chance, town[0], 3) for _ in range(chance.randint(0, 6))]
                told = looked_run(town, state, rows)
                self.assertEqual(len(told), len(rows))
                self.assertIsNone(judge_looked_run(town, (0,) * town[0], (1, 1), state, rows, told))
                if sum(state) < 500:
                    street = Street(town, state)
                    for comings, (choice, behind) in zip(rows, told):
                        self.assertTrue(same(choice, plain_looked(town, street.state())))
                        street.frame(comings, choice)
                        self.assertTrue(same(behind, street.state()))

    def test_no_frames(self):
        self.assertEqual([looked_run(PLAIN, (3, 1), []), self.judged([], []), self.judged((), []), self.judged([()], [])],
                         [[], None, None, ("form",)])

    def test_faults(self):
        run = looked_run(PLAIN, (6, 3), self.ROWS)
        (first, behind), (second, end) = run
        for value, fault in (
                (run, None), (tuple(run), None), (run[:1], ("form",)), (run + run[:1], ("form",)), (None, ("form",)),
                ([run[0], list(run[1])], ("form",)), ([run[0], run[1] + (None,)], ("form",)), ([(None, None), None], ("form",)),
                ([(None, None), (None, None)], ("choice", 0, ("form",))), ([(first, None), (None, None)], ("state", 0)),
                ([(first, (3, 5)), run[1]], ("state", 0)), ([run[0], (second, (4, 2))], ("state", 1)),
                ([run[0], (second, [4, 1])], ("state", 1)), ([run[0], (second, (4, True))], ("state", 1)),
                ([run[0], (first, (0, 5))], ("choice", 1, ("plan", 0))), ([(second, behind), run[1]], ("choice", 0, ("plan", 0))),
                ([run[0], (((((1, 5),), (0, 3)),), end)], ("choice", 1, ("lets", 0, 1)))):
            self.assertEqual(self.judged(value), fault, value)

    def test_each_choice_is_judged_behind_the_told_ones_ahead(self):
        # At (3, 3) both plans press alike: the other one is as right, and leads on to its own states.
        other = ((((1, 5),), (0, 4)),)
        value = [(other, (4, 0)), (FULL, (1, 1))]
        self.assertNotEqual(looked(PLAIN, (3, 3)), other)
        self.assertIsNone(self.judged(value, state=(3, 3)))
        self.assertEqual(self.judged([(other, (4, 0)), (other, (5, 0))], state=(3, 3)), ("choice", 1, ("plan", 0)))

    def test_with_any_plans_of_the_greatest_pressures(self):
        chance = random.Random(20)
        for town in towns(40, seed=21):
            state = row_by_chance(chance, town[0], 3)
            rows = [row_by_chance(chance, town[0], 2) for _ in range(4)]
            value, at = [], state
            for comings in rows:
                choice = other_look(chance, town, at)
                at = frame(town, at, comings, choice)
                value.append((choice, at))
            self.assertIsNone(judge_looked_run(town, (2,) * town[0], (1, 1), state, rows, value))

    def test_what_is_near_and_any_value(self):
        chance = random.Random(22)
        for town in towns(8, seed=23, most_queues=3, most_crossings=2, length=6):
            state, rows = row_by_chance(chance, town[0], 4), [row_by_chance(chance, town[0], 2) for _ in range(2)]
            told = looked_run(town, state, rows)
            for value in within(told) + within(tuple(told)) + list(ODD_VALUES):
                self.assertTrue(same(judge_looked_run(town, (2,) * town[0], (1, 1), state, rows, value),
                                     plain_judge_run(town, state, rows, value)), value)
        for odd in ODD_VALUES:
            for value in ([(odd, odd)] * 2, [odd, odd], [(FULL, odd)] * 2, [(odd, (3, 4))] * 2):
                self.assertTrue(same(self.judged(value), plain_judge_run(PLAIN, (6, 3), self.ROWS, value)), value)

    def test_two_hundred_frames_of_a_wide_town(self):
        chance = random.Random(24)
        town = wide_town(chance)
        rows = [row_by_chance(chance, 8, 10 ** 6) for _ in range(200)]
        told = looked_run(town, (10 ** 6,) * 8, rows)
        self.assertIsNone(judge_looked_run(town, (10 ** 6,) * 8, (1, 1), (10 ** 6,) * 8, rows, told))
        told[150] = (told[150][0], told[149][1])
        self.assertEqual(judge_looked_run(town, (10 ** 6,) * 8, (1, 1), (10 ** 6,) * 8, rows, told), ("state", 150))


if __name__ == "__main__":
    unittest.main()
