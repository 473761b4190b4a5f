"""[4.5], [4.6], [4.7]: pulls and gains; shares and flows that carry counts, or prices by which waiting grows."""

import random
import unittest
from fractions import Fraction

from greenheld.flows import carried, gain, judge_carried, pull
from greenheld.leading import leading_capacities
from greenheld.slack import factor_of, slack_of
from tests.plain import (pair_of, pairs_of, plain_carrying, plain_gain, plain_judge_carried, plain_pull, row_by_chance,
                         share_sizes, wide_town)
from tests.support import ODD_VALUES, TOWN, same, towns, within

PLAIN = (2, ((((0, None), (1, None)), ((0, 1, 1, 1),), 6),))
LEAST = Fraction(1, 10 ** 9)
# Queue 2 has no movements; queues 3 and 4 lead into one another alone.
SHUT = (5, ((((0, None), (1, 2)), ((0, 1, 1, 1),), 8), (((3, 4), (4, 3)), (), 8)))


def prices_by_chance(chance, many):
    prices = [chance.choice((0, chance.randint(0, 9), Fraction(chance.randint(0, 9), chance.randint(1, 9))))
              for _ in range(many)]
    return pairs_of(prices)


def counts_by_chance(chance, many):
    """Counts of integers, of fractions, of both."""
    kind, most = chance.choice("ifb"), chance.choice((1, 2, 6, 20))
    counts = []
    for _ in range(many):
        if kind == "i" or kind == "b" and chance.random() < 0.5:
            counts.append(chance.choice((0, chance.randint(0, most))))
        else:
            counts.append(pair_of(Fraction(chance.randint(0, 3 * most), chance.randint(1, 9))))
    return tuple(counts)


class PullAndGain(unittest.TestCase):
    def test_by_plain_sums(self):
        chance = random.Random(1)
        for town in towns(60, seed=2) + [TOWN, SHUT]:
            for _ in range(4):
                prices, counts = prices_by_chance(chance, town[0]), counts_by_chance(chance, town[0])
                for c in range(len(town[1])):
                    self.assertTrue(same(pull(town, prices, c), pair_of(plain_pull(town, prices, c))))
                self.assertTrue(same(gain(town, counts, prices), pair_of(plain_gain(town, counts, prices))))

    def test_falls_below_0_count_as_0(self):
        town = (2, ((((0, 1), (1, None)), (), 4),))
        self.assertEqual(leading_capacities(town[1][0]), ((3, 3),))
        self.assertEqual([pull(town, ((1, 2), (1, 1)), 0), pull(town, ((2, 1), (1, 1)), 0),
                          pull(town, ((0, 1), (0, 1)), 0)], [(3, 1), (6, 1), (0, 1)])

    def test_the_plan_is_one_for_all_movements(self):
        self.assertEqual([pull(PLAIN, ((1, 1), (0, 1)), 0), pull(PLAIN, ((1, 1), (1, 1)), 0)], [(4, 1), (4, 1)])
        self.assertEqual(pull((2, ((((0, None), (1, None)), (), 6),)), ((1, 1), (1, 1)), 0), (10, 1))

    def test_counts_as_integers_and_as_fractions(self):
        for some in ((3, 2), ((3, 1), 2), ((3, 1), (2, 1))):
            self.assertEqual(gain(PLAIN, some, ((1, 2), (1, 2))), (1, 2))


class Carried(unittest.TestCase):
    def just_one(self, town, counts):
        """Looks at the answer by the judge, and by sums of its own: shares and flows, or prices that bar them."""
        told = carried(town, counts)
        self.assertIsNone(judge_carried(town, counts, told), (town, counts, told))
        self.assertIsNone(plain_judge_carried(town, counts, told), (town, counts, told))
        # By prices with a gain above 0 no shares and flows carry the counts: both are never there.
        found = slack_of(town, counts)
        self.assertEqual(told[0], "grows" if found is None else "carried")
        if found is not None:
            self.assertLessEqual(plain_gain(town, counts, found[4]), 0)
        return told[0]

    def test_small_towns(self):
        chance = random.Random(3)
        words = [self.just_one(town, counts_by_chance(chance, town[0])) for town in towns(150, seed=4) for _ in range(4)]
        self.assertEqual(set(words), {"carried", "grows"})
        self.assertGreater(min(words.count("carried"), words.count("grows")), 100)

    def test_no_prices_have_a_gain_with_what_is_carried(self):
        chance = random.Random(5)
        for town in towns(40, seed=6):
            counts = row_by_chance(chance, town[0], 1)
            if carried(town, counts)[0] == "carried":
                for _ in range(10):
                    self.assertLessEqual(plain_gain(town, counts, prices_by_chance(chance, town[0])), 0)

    def test_two_movements_by_all_mixes_of_two_plans(self):
        for ticks, length in ((0, 5), (1, 6), (2, 12), (3, 11)):
            town = (2, ((((0, None), (1, None)), ((0, 1, ticks, 1),), length),))
            capacities = leading_capacities(town[1][0])
            mixes = [tuple(a * part + b * (1 - part) for a, b in zip(one, other))
                     for one in capacities for other in capacities for part in (Fraction(k, 60) for k in range(61))]
            for counts in ((a, b) for a in range(length) for b in range(length)):
                is_mixed = any(a >= counts[0] and b >= counts[1] for a, b in mixes)
                if is_mixed:
                    self.assertEqual(self.just_one(town, counts), "carried")
                elif not any(a >= counts[0] - Fraction(1, 5) and b >= counts[1] - Fraction(1, 5) for a, b in mixes):
                    self.assertEqual(self.just_one(town, counts), "grows")

    def test_all_counts_0(self):
        for town in towns(30, seed=7) + [TOWN, SHUT, PLAIN]:
            self.assertEqual(self.just_one(town, (0,) * town[0]), "carried")
            self.assertEqual(self.just_one(town, ((0, 1),) * town[0]), "carried")

    def test_queues_without_a_way_out(self):
        self.assertEqual(self.just_one(SHUT, (5, 0, 0, 0, 0)), "carried")
        for counts in ((0, 1, 0, 0, 0), (0, 0, 1, 0, 0), (0, 0, 0, 1, 0), (1, 0, 0, 0, (1, 10 ** 9 - 1)), (0, (1, 9), 0, 0, 0)):
            self.assertEqual(self.just_one(SHUT, counts), "grows")
        self.assertEqual(carried(SHUT, (0, 0, 3, 0, 0)), ("grows", ((0, 1), (0, 1), (1, 1), (0, 1), (0, 1)), (3, 1)))

    def test_nothing_fits(self):
        town = (1, ((((0, None),), (), 1),))
        self.assertEqual([self.just_one(town, (0,)), self.just_one(town, (1,))], ["carried", "grows"])

    def test_just_carried_and_by_the_least_fraction_not(self):
        for more, word in ((0, "carried"), (LEAST, "grows"), (-LEAST, "carried")):
            self.assertEqual(self.just_one(PLAIN, (pair_of(2 + more), (2, 1))), word)
            self.assertEqual(self.just_one(PLAIN, (0, pair_of(4 + more))), word)
        chance = random.Random(8)
        for town in towns(60, seed=9):
            counts = row_by_chance(chance, town[0], 2)
            if any(counts):
                times = Fraction(*factor_of(town, counts)[0])
                some = pairs_of([times * count for count in counts])
                self.assertEqual(self.just_one(town, some), "carried")
                over = pairs_of([(times + LEAST) * count for count in counts])
                self.assertEqual(self.just_one(town, over), "grows")

    def test_counts_of_nine_figures(self):
        chance = random.Random(10)
        most = 10 ** 9 - 1
        for town in towns(20, seed=11):
            self.just_one(town, tuple(chance.randint(0, most) for _ in range(town[0])))
            self.just_one(town, tuple(pair_of(Fraction(chance.randint(0, most), chance.randint(1, most)))
                                      for _ in range(town[0])))

    def test_wide_towns(self):
        chance = random.Random(12)
        for k in range(6):
            town = wide_town(chance, length=(8, 10, 12)[k % 3])
            words = {self.just_one(town, row_by_chance(chance, 8, most)) for most in (0, 1, 30)}
            self.assertEqual(words, {"carried", "grows"})
            self.just_one(town, tuple(pair_of(Fraction(chance.randint(0, 10 ** 9 - 1), chance.randint(1, 10 ** 9 - 1)))
                                      for _ in range(8)))

    def test_integers_and_fractions_have_one_answer(self):
        self.assertEqual(carried(TOWN, (1, 2, 0, 1)), carried(TOWN, ((1, 1), (2, 1), (0, 1), 1)))


class Judged(unittest.TestCase):
    SHARES = (((0, 1), (1, 2), (1, 2)),)
    FLOWS = (((2, 1), (2, 1)),)

    def told(self, shares, flows, counts=(2, 2), town=PLAIN):
        return judge_carried(town, counts, ("carried", shares, flows))

    def test_carried(self):
        below = (((0, 1), (3, 2), (-1, 2)),)
        for shares, flows, fault in (
                (self.SHARES, self.FLOWS, None), (self.SHARES[0], self.FLOWS, ("form",)), ((), self.FLOWS, ("form",)),
                (list(self.SHARES), self.FLOWS, ("form",)), ((list(self.SHARES[0]),), self.FLOWS, ("form",)),
                (self.SHARES, self.FLOWS * 2, ("form",)), (self.SHARES, (self.FLOWS[0][:1],), ("form",)),
                (self.SHARES, (((2, 1), 2),), ("form",)), (self.SHARES, (((4, 2), (2, 1)),), ("form",)),
                ((self.SHARES[0] + ((0, 1),),), self.FLOWS, ("form",)), (self.SHARES, None, ("form",)),
                ((((0, 1), (1, 2), (True, 2)),), self.FLOWS, ("form",)),
                (below, (((9, 1), (9, 1)),), ("below",)), (self.SHARES, (((2, 1), (-2, 1)),), ("below",)),
                ((((1, 2), (0, 1), (0, 1)),), (((9, 1), (9, 1)),), ("share", 0)),
                ((((1, 2), (1, 2), (1, 2)),), self.FLOWS, ("share", 0)),
                (self.SHARES, (((3, 1), (3, 1)),), ("flow", 0, 0)), (self.SHARES, (((2, 1), (3, 1)),), ("flow", 0, 1)),
                (self.SHARES, (((1, 1), (1, 1)),), ("queue", 0)), (self.SHARES, (((2, 1), (1, 1)),), ("queue", 1))):
            self.assertEqual(self.told(shares, flows), fault, (shares, flows))

    def test_just_carried(self):
        self.assertIsNone(self.told(self.SHARES, self.FLOWS, ((2, 1), 2)))
        self.assertEqual(self.told(self.SHARES, self.FLOWS, (2, pair_of(2 + LEAST))), ("queue", 1))
        self.assertEqual(self.told(self.SHARES, (((2, 1), pair_of(2 + LEAST)),)), ("flow", 0, 1))

    def test_several_crossings(self):
        town = (3, ((((0, 2), (1, 2)), (), 3), (((2, None),), (), 3)))
        shares, flows = (((1, 1),), ((1, 1),)), (((1, 1), (1, 1)), ((2, 1),))
        self.assertIsNone(self.told(shares, flows, (1, 1, 0), town))
        self.assertEqual(self.told(shares, flows, (1, 1, (1, 9)), town), ("queue", 2))
        self.assertEqual(self.told(shares, (((1, 1), (0, 1)), ((2, 1),)), (1, 1, 9), town), ("queue", 1))
        self.assertEqual(self.told(shares, (((1, 1), (1, 1)), ((5, 2),)), (9, 9, 9), town), ("flow", 1, 0))
        self.assertEqual(self.told((((1, 1),), ((0, 1),)), (((9, 1), (1, 1)), ((2, 1),)), (1, 1, 0), town), ("share", 1))

    def test_grows(self):
        half = ((1, 2), (1, 2))
        for prices, amount, fault in (
                (half, (1, 2), None), (half, (1, 3), ("amount",)), (half, (-1, 2), ("amount",)), (half, (0, 1), ("amount",)),
                (half, (2, 4), ("form",)), (half, 1, ("form",)), (half, None, ("form",)), (half[:1], (1, 2), ("form",)),
                (list(half), (1, 2), ("form",)), (half + ((0, 1),), (1, 2), ("form",)),
                (((3, 2), (-1, 2)), (1, 2), ("below",)), (((3, 1), (-1, 1)), (1, 2), ("below",)),
                (((1, 1), (1, 1)), (1, 1), ("sum",)), (((0, 1), (0, 1)), (0, 1), ("sum",)),
                (((1, 3), (2, 3)), (1, 2), ("amount",))):
            self.assertEqual(judge_carried(PLAIN, (3, 2), ("grows", prices, amount)), fault, (prices, amount))
        # A gain that is just as told, but not above 0, bars nothing.
        self.assertEqual(judge_carried(PLAIN, (2, 2), ("grows", half, (0, 1))), ("amount",))
        self.assertEqual(judge_carried(PLAIN, (1, 1), ("grows", half, (-1, 1))), ("amount",))

    def test_words(self):
        right = carried(PLAIN, (1, 1))
        for value in (right[1:], right + ((),), list(right), ("Carried",) + right[1:], ("grows",) + right[1:],
                      (True,) + right[1:], ("carried",), ("keeps",) + right[1:], (["carried"],) + right[1:]):
            self.assertEqual(judge_carried(PLAIN, (1, 1), value), ("form",))

    def test_answers_with_one_thing_changed(self):
        chance = random.Random(13)
        for town in towns(12, seed=14, most_queues=3, most_crossings=2, length=6):
            counts = counts_by_chance(chance, town[0])
            for value in within(carried(town, counts)):
                self.assertTrue(same(judge_carried(town, counts, value), plain_judge_carried(town, counts, value)), value)

    def test_shares_and_flows_by_chance(self):
        chance = random.Random(15)
        faults = set()
        for town in towns(60, seed=16, length=8):
            for _ in range(6):
                counts = row_by_chance(chance, town[0], 1)
                shares = []
                for many in share_sizes(town):
                    parts = [0] * many
                    for _ in range(chance.choice((4, 4, 4, 4, 5))):
                        parts[chance.randrange(many)] += 1
                    shares.append(pairs_of([Fraction(part, 4) for part in parts]))
                flows = tuple(pairs_of([Fraction(chance.randint(0, 8), 4) for _ in crossing[0]]) for crossing in town[1])
                told = judge_carried(town, counts, ("carried", tuple(shares), flows))
                self.assertTrue(same(told, plain_carrying(town, counts, tuple(shares), flows)))
                faults.add(told and told[0])
        self.assertEqual(faults, {None, "share", "flow", "queue"})

    def test_any_value(self):
        for odd in ODD_VALUES:
            for value in (odd, ("carried", odd, odd), ("grows", odd, odd), ("carried", self.SHARES, odd),
                          ("carried", odd, self.FLOWS), ("grows", ((1, 2), (1, 2)), odd), (odd, odd, odd),
                          ("carried", (odd,), self.FLOWS), ("carried", self.SHARES, (odd,)), ("grows", (odd, odd), (1, 2))):
                self.assertTrue(same(judge_carried(PLAIN, (2, 2), value), plain_judge_carried(PLAIN, (2, 2), value)), value)


if __name__ == "__main__":
    unittest.main()
