"""[3.4] to [3.7]: leading plans, what they are worth, and rounds of them."""

import random
import unittest
from fractions import Fraction
from math import lcm

from greenheld.leading import (best_plan, judge_best, leading_capacities, leading_plans, mixed_capacity, plan_for,
                               round_counts, spread_round, worth_of)
from greenheld.plans import capacity_of, is_above, is_plan, need_of
from tests.support import EAST, ODD_VALUES, plain_int, same, within
from tests.trying import all_plans, choice_of, nowhere_less, small_crossings

SMALL = small_crossings()


def pair_of(number):
    return (number.numerator, number.denominator)


def weights_by_chance(chance, many, size=9):
    return tuple(pair_of(Fraction(chance.randint(0, size), chance.randint(1, size))) for _ in range(many))


def plain_worth(capacity, weights):
    return sum((cars * Fraction(*weight) for cars, weight in zip(capacity, weights)), Fraction(0))


class AllPlansTried(unittest.TestCase):
    def test_crossings_are_many_and_unlike(self):
        self.assertGreater(len(SMALL), 150)
        self.assertEqual({len(crossing[0]) for crossing, _ in SMALL}, set(range(1, 7)))
        self.assertEqual({crossing[2] for crossing, _ in SMALL}, set(range(1, 13)))

    def test_leading_plans(self):
        for crossing, plans in SMALL:
            having = {}
            for plan, need, capacity in plans:
                having.setdefault(capacity, []).append((plan, need, capacity))
            leading = [capacity for capacity in having if not any(is_above(other, capacity) for other in having)]
            told = tuple(sorted(choice_of(having[capacity]) for capacity in leading))
            self.assertTrue(same(leading_plans(crossing), told), crossing)
            self.assertTrue(same(leading_capacities(crossing), tuple(capacity_of(crossing, plan) for plan in told)))
            for capacity in having:
                self.assertTrue(any(nowhere_less(other, capacity) for other in leading))

    def test_plan_for(self):
        chance = random.Random(1)
        for crossing, plans in SMALL:
            leading = leading_capacities(crossing)
            for _ in range(8):
                wanted = tuple(max(0, cars + chance.choice((-1, -1, 0, 0, 1))) for cars in chance.choice(plans)[2])
                enough = [entry for entry in plans if nowhere_less(entry[2], wanted)]
                told = plan_for(crossing, wanted)
                self.assertTrue(same(told, choice_of(enough) if enough else None), (crossing, wanted))
                self.assertEqual(told is not None, any(nowhere_less(capacity, wanted) for capacity in leading))

    def test_best_plan(self):
        chance = random.Random(2)
        for crossing, plans in SMALL:
            for size in (1, 9, 10 ** 9 - 1):
                weights = weights_by_chance(chance, len(crossing[0]), size)
                most = max(plain_worth(capacity, weights) for _, _, capacity in plans)
                first = [plan for plan in leading_plans(crossing)
                         if plain_worth(capacity_of(crossing, plan), weights) == most][0]
                self.assertTrue(same(best_plan(crossing, weights), (pair_of(most), first)))
                plan, _, capacity = chance.choice(plans)
                self.assertTrue(same(worth_of(crossing, plan, weights), pair_of(plain_worth(capacity, weights))))

    def test_judge_best(self):
        chance = random.Random(3)
        for crossing, plans in SMALL[::3]:
            weights = weights_by_chance(chance, len(crossing[0]), 3)
            most, first = best_plan(crossing, weights)
            for plan, _, capacity in chance.sample(plans, min(len(plans), 30)):
                worth = pair_of(plain_worth(capacity, weights))
                fault = None if worth == most else ("more", first)
                self.assertTrue(same(judge_best(crossing, weights, (worth, plan)), fault))
                self.assertTrue(same(judge_best(crossing, weights, ((worth[0] + worth[1], worth[1]), plan)),
                                     ("worth", worth)))


class Leading(unittest.TestCase):
    def test_nothing_fits(self):
        for crossing in ((((0, None),), (), 1), (((0, None), (1, None)), ((0, 1, 12, 30),), 12),
                         (((0, None), (1, None)), ((0, 1, 2, 2),), 3)):
            self.assertEqual([leading_plans(crossing), leading_capacities(crossing)],
                             [((),), ((0,) * len(crossing[0]),)])
            self.assertEqual(best_plan(crossing, ((1, 1),) * len(crossing[0])), ((0, 1), ()))
            self.assertEqual([plan_for(crossing, (0,) * len(crossing[0])), plan_for(crossing, (1,) * len(crossing[0]))],
                             [(), None])

    def test_two_ticks(self):
        self.assertEqual(leading_plans((((0, None),), (), 2)), (((0, 2),),))
        self.assertEqual(leading_plans((((0, None), (1, None)), ((0, 1, 0, 0),), 4)),
                         (((0, 2), (1, 2)), ((0, 4),), ((1, 4),)))

    def test_the_choice_among_plans_of_one_capacity(self):
        # Two movements beside each of two others: the same capacity comes of two pairs of stages.
        crossing = (tuple((q, None) for q in range(4)), ((0, 1, 1, 1), (2, 3, 1, 1)), 10)
        plans = leading_plans(crossing)
        self.assertIn(((0, 4), (3, 4)), plans)
        self.assertNotIn(((1, 4), (2, 4)), plans)
        self.assertEqual(plan_for(crossing, (1, 1, 1, 1)), ((0, 2), (3, 2)))

    def test_the_fewest_pairs_of_equal_need(self):
        crossing = (tuple((q, None) for q in range(4)), ((0, 1, 0, 0), (2, 3, 0, 0)), 7)
        wanted = (3, 1, 2, 2)
        more = ((0, 2), (1, 3), (2, 2))
        self.assertEqual([need_of(crossing, more), nowhere_less(capacity_of(crossing, more), wanted)], [7, True])
        self.assertEqual(plan_for(crossing, wanted), ((0, 4), (3, 3)))
        enough = [entry for entry in all_plans(crossing) if nowhere_less(entry[2], wanted)]
        self.assertEqual(choice_of(enough), ((0, 4), (3, 3)))

    def test_many(self):
        moves = tuple((q, None) for q in range(6))
        every = tuple((i, j, 0, 0) for i in range(6) for j in range(i + 1, 6))
        plans = leading_plans((moves, every, 12))
        self.assertEqual(len(plans), 1317)
        self.assertEqual(list(plans), sorted(set(plans)))
        triangles = ((0, 1, 0, 0), (0, 2, 0, 0), (1, 2, 0, 0), (3, 4, 0, 0), (3, 5, 0, 0), (4, 5, 0, 0))
        capacities = leading_capacities((moves, triangles, 12))
        self.assertEqual(len(capacities), len(set(capacities)))
        self.assertFalse(any(is_above(one, other) for one in capacities[::7] for other in capacities[::11]))

    def test_great_numbers_wanted(self):
        self.assertIsNone(plan_for(EAST, (10 ** 9 - 1, 0, 0)))
        self.assertIsNone(plan_for(EAST, (0, 0, 9)))
        self.assertEqual(plan_for(EAST, (0, 0, 8)), ((1, 9),))

    def test_weights_of_0(self):
        weights = ((0, 1), (0, 1), (0, 1))
        self.assertEqual(best_plan(EAST, weights), ((0, 1), ((0, 2), (1, 5))))
        self.assertIsNone(judge_best(EAST, weights, ((0, 1), ())))
        self.assertIsNone(judge_best(EAST, weights, ((0, 1), ((0, 1), (1, 1), (0, 1)))))


class WrongBest(unittest.TestCase):
    WEIGHTS = ((1, 1), (1, 2), (0, 1))

    def test_form(self):
        right = ((9, 1), ((0, 10),))
        self.assertIsNone(judge_best(EAST, self.WEIGHTS, right))
        for value in (None, (), list(right), right[:1], right + ((),), ([9, 1], ((0, 10),)), ((9, 1), [(0, 10)]),
                      ((18, 2), ((0, 10),)), ((-9, -1), ((0, 10),)), ((9, 0), ((0, 10),)), ((9, True), ((0, 10),)),
                      (9, ((0, 10),)), ((9, 1), ((0, 11),)), ((9, 1), ((0, 1), (0, 1))), ((9, 1), ((2, 1),)),
                      ((0, 5), ()), ((9, 1), ((0, 10), None)), ((9, 1, 1), ((0, 10),))):
            self.assertEqual(judge_best(EAST, self.WEIGHTS, value), ("form",), value)

    def test_worth_goes_ahead_of_more(self):
        self.assertEqual([judge_best(EAST, self.WEIGHTS, ((9, 1), ((0, 4),))), judge_best(EAST, self.WEIGHTS, ((3, 1), ((0, 4),))),
                          judge_best(EAST, self.WEIGHTS, ((0, 1), ())), judge_best(EAST, self.WEIGHTS, ((-1, 1), ()))],
                         [("worth", (3, 1)), ("more", ((0, 10),)), ("more", ((0, 10),)), ("worth", (0, 1))])

    def test_any_value(self):
        right = ((9, 1), ((0, 10),))
        for value in list(ODD_VALUES) + within(right) + [((9, 1), value) for value in ODD_VALUES]:
            told = judge_best(EAST, self.WEIGHTS, value)
            formed = type(value) is tuple and len(value) == 2 and type(value[0]) is tuple and len(value[0]) == 2
            formed = formed and all(plain_int(number) for number in value[0]) and value[0][1] >= 1
            if not formed or pair_of(Fraction(*value[0])) != value[0] or not is_plan(EAST, value[1]):
                self.assertEqual(told, ("form",), value)
                continue
            worth = pair_of(plain_worth(capacity_of(EAST, value[1]), self.WEIGHTS))
            fault = ("worth", worth) if worth != value[0] else None if worth == (9, 1) else ("more", ((0, 10),))
            self.assertTrue(same(told, fault), value)


def shares_by_chance(chance, many, frames):
    """Fractions that add up to 1, by a round of so many frames."""
    counts = [0] * many
    for _ in range(frames):
        counts[chance.randrange(many)] += 1
    return tuple(pair_of(Fraction(count, frames)) for count in counts)


class Rounds(unittest.TestCase):
    def test_shares_by_chance(self):
        chance = random.Random(4)
        for crossing, _ in SMALL[::3]:
            capacities = leading_capacities(crossing)
            for frames in (1, 2, 12, 60, 997, 1000):
                shares = shares_by_chance(chance, len(capacities), frames)
                mixed = tuple(pair_of(sum((Fraction(*share) * capacity[i] for share, capacity in zip(shares, capacities)),
                                          Fraction(0))) for i in range(len(crossing[0])))
                self.assertTrue(same(mixed_capacity(crossing, shares), mixed))
                least = lcm(*[e for _, e in shares])
                counts = tuple(int(Fraction(*share) * least) for share in shares)
                self.assertTrue(same(round_counts(crossing, shares), counts))
                self.assertEqual(sum(counts), least)
                told = spread_round(crossing, shares)
                self.assertIs(type(told), tuple)
                self.assertEqual(len(told), least)
                for frame in range(0, least, 1 + least // 40):
                    j = min(j for j in range(len(shares))
                            if sum((Fraction(*share) for share in shares[:j + 1]), Fraction(0)) * least > frame)
                    self.assertEqual(told[frame], j)

    def test_shares_of_0_and_of_1(self):
        for k in range(6):
            shares = ((0, 1),) * k + ((1, 1),) + ((0, 1),) * (5 - k)
            self.assertEqual(mixed_capacity(EAST, shares), tuple((cars, 1) for cars in leading_capacities(EAST)[k]))
            self.assertEqual(round_counts(EAST, shares), (0,) * k + (1,) + (0,) * (5 - k))
            self.assertEqual(spread_round(EAST, shares), (k,))

    def test_shares_of_nine_figures(self):
        shares = ((1, 10 ** 9 - 1), (0, 1), (0, 1), (0, 1), (0, 1), (10 ** 9 - 2, 10 ** 9 - 1))
        self.assertEqual(round_counts(EAST, shares), (1, 0, 0, 0, 0, 10 ** 9 - 2))
        self.assertEqual(mixed_capacity(EAST, shares)[0], (1, 10 ** 9 - 1))


if __name__ == "__main__":
    unittest.main()
