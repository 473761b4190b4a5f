"""[5.1] to [5.6]: slack, rooms, factors, what can come, and the steepest prices."""

import random
import unittest
from fractions import Fraction

from greenheld.flows import carried
from greenheld.slack import (factor_of, first_lost, greatest_of, judge_slack, judge_steepest, mixed_counts, room_at,
                             rooms, slack_of, steepest, tight_queues)
from tests.plain import (are_plain_fractions, are_tables, flow_sizes, has_below, number_of, numbers_of, pair_of,
                         pairs_of, plain_carrying, plain_gain, plain_is_fraction, plain_judge_carried, plain_pull,
                         plain_total, row_by_chance, share_sizes, wide_town)
from tests.support import ODD_VALUES, TOWN, plain_int, same, towns, within
from tests.test_flows import LEAST, PLAIN, SHUT, counts_by_chance

HALF = ((1, 2), (1, 2))


def more_at_each(counts, more):
    return pairs_of([number_of(count) + more for count in counts])


def are_plain_prices(town, value):
    return (are_plain_fractions(value, town[0]) and all(u >= 0 for u, _ in value) and sum(numbers_of(value)) == 1)


def plain_judge_slack(town, counts, value):
    if type(value) is not tuple or len(value) != 5 or type(value[0]) is not str or value[0] != "slack":
        return ("form",)
    _, e, shares, flows, prices = value
    if not plain_is_fraction(e) or e[0] < 0 or not are_plain_prices(town, prices):
        return ("form",)
    fault = plain_judge_carried(town, more_at_each(counts, Fraction(*e)), ("carried", shares, flows))
    if fault:
        return ("carried", fault)
    return None if plain_gain(town, counts, prices) == -Fraction(*e) else ("prices",)


def plain_judge_steepest(town, counts, value):
    if type(value) is not tuple or len(value) != 4:
        return ("form",)
    amount, prices, shares, flows = value
    if not plain_is_fraction(amount) or amount[0] <= 0 or not are_plain_prices(town, prices):
        return ("form",)
    if not are_tables(shares, share_sizes(town)) or not are_tables(flows, flow_sizes(town)) or has_below(shares, flows):
        return ("form",)
    if plain_gain(town, counts, prices) != Fraction(*amount):
        return ("prices",)
    return plain_carrying(town, counts, shares, flows, spare=Fraction(*amount))


def small_counts(seed, many=60, most=3):
    """Pairs of a town and counts, some of which are carried."""
    chance = random.Random(seed)
    return [(town, row_by_chance(chance, town[0], chance.randint(0, most)) if chance.random() < 0.6
             else counts_by_chance(chance, town[0])) for town in towns(many, seed=seed) for _ in range(3)]


class Slack(unittest.TestCase):
    def look(self, town, counts):
        """The slack or the steepest prices, whichever is there, looked at by judges and by sums."""
        told = slack_of(town, counts)
        if told is None:
            told = steepest(town, counts)
            self.assertIsNone(judge_steepest(town, counts, told), (town, counts, told))
            self.assertIsNone(plain_judge_steepest(town, counts, told), (town, counts, told))
            self.assertEqual(judge_slack(town, counts, told), ("form",))
            return -Fraction(*told[0])
        self.assertIsNone(judge_slack(town, counts, told), (town, counts, told))
        self.assertIsNone(plain_judge_slack(town, counts, told), (town, counts, told))
        return Fraction(*told[1])

    def test_small_towns(self):
        found = [self.look(town, counts) for town, counts in small_counts(1, 120) + [(TOWN, (1, 0, 1, 0))]]
        self.assertGreater(min(sum(e > 0 for e in found), sum(e < 0 for e in found), sum(e == 0 for e in found)), 20)

    def test_no_more_is_carried_at_each_queue(self):
        for town, counts in small_counts(2, 50):
            e = self.look(town, counts)
            if e >= 0:
                self.assertEqual(carried(town, more_at_each(counts, e))[0], "carried")
                self.assertEqual(self.look(town, more_at_each(counts, e)), 0)
                self.assertEqual(carried(town, more_at_each(counts, e + LEAST))[0], "grows")
                self.assertEqual(self.look(town, more_at_each(counts, e + LEAST)), -LEAST)

    def test_slack_0(self):
        self.assertEqual([self.look(PLAIN, (2, 2)), self.look(PLAIN, (4, 0)), self.look(SHUT, (0,) * 5)], [0, 0, 0])
        self.assertEqual(slack_of(SHUT, (0,) * 5)[1], (0, 1))
        self.assertEqual(judge_slack(PLAIN, (2, 2), slack_of(PLAIN, (2, 2))), None)
        self.assertIsNone(slack_of(PLAIN, (2, pair_of(2 + LEAST))))

    def test_integers_and_fractions_have_one_answer(self):
        self.assertEqual(slack_of(TOWN, (1, 0, 1, 0)), slack_of(TOWN, ((1, 1), 0, (1, 1), (0, 1))))
        self.assertEqual(steepest(PLAIN, (3, 2)), steepest(PLAIN, ((3, 1), (2, 1))))

    def test_wide_towns_and_great_counts(self):
        chance = random.Random(3)
        most = 10 ** 9 - 1
        for length in (9, 12):
            town = wide_town(chance, length=length)
            for counts in ((0,) * 8, row_by_chance(chance, 8, 1), row_by_chance(chance, 8, most),
                           tuple(pair_of(Fraction(chance.randint(1, most), chance.randint(1, most))) for _ in range(8))):
                self.look(town, counts)

    def test_steepest_is_the_greatest_gain(self):
        chance = random.Random(4)
        for town, counts in small_counts(5, 40):
            if slack_of(town, counts) is None:
                amount = Fraction(*steepest(town, counts)[0])
                for _ in range(5):
                    parts = [chance.randint(0, 5) for _ in range(town[0])]
                    parts[chance.randrange(town[0])] += 1
                    prices = pairs_of([Fraction(part, sum(parts)) for part in parts])
                    self.assertLessEqual(plain_gain(town, counts, prices), amount)


class Rooms(unittest.TestCase):
    def look(self, town, counts, q):
        """The room at a queue, looked at by sums: the shares and flows carry it, the prices let no more."""
        t, shares, flows, prices = room_at(town, counts, q)
        self.assertTrue(plain_is_fraction(t) and t[0] >= 0)
        some = tuple(pair_of(number_of(count) + (Fraction(*t) if k == q else 0)) for k, count in enumerate(counts))
        self.assertIsNone(plain_judge_carried(town, some, ("carried", shares, flows)), (town, counts, q))
        self.assertTrue(are_plain_fractions(prices, town[0]) and all(u >= 0 for u, _ in prices))
        self.assertEqual(prices[q], (1, 1))
        self.assertEqual(plain_gain(town, counts, prices), -Fraction(*t))
        over = some[:q] + (pair_of(number_of(some[q]) + LEAST),) + some[q + 1:]
        self.assertEqual(carried(town, over)[0], "grows")
        return t

    def test_small_towns(self):
        found = []
        for town, counts in small_counts(6, 60, most=1):
            if carried(town, counts)[0] == "carried":
                told = rooms(town, counts)
                self.assertTrue(same(told, tuple(self.look(town, counts, q) for q in range(town[0]))))
                self.assertTrue(same(tight_queues(town, counts), tuple(q for q, t in enumerate(told) if t == (0, 1))))
                found.extend(told)
        self.assertGreater(min(found.count((0, 1)), sum(t != (0, 1) for t in found)), 50)

    def test_tight_queues_and_none(self):
        self.assertEqual([tight_queues(PLAIN, (2, 2)), tight_queues(PLAIN, (1, 1)), tight_queues(PLAIN, (4, 0))],
                         [(0, 1), (), (0, 1)])
        self.assertEqual([rooms(PLAIN, (2, 2)), rooms(PLAIN, (0, 0)), rooms(PLAIN, ((3, 2), 1))],
                         [((0, 1), (0, 1)), ((4, 1), (4, 1)), ((3, 2), (3, 2))])
        self.assertEqual([self.look(PLAIN, (2, 2), q) for q in (0, 1)], [(0, 1), (0, 1)])
        self.assertEqual(tight_queues(SHUT, (0,) * 5), (1, 2, 3, 4))

    def test_wide_towns(self):
        town = wide_town(random.Random(7))
        for q in range(8):
            self.look(town, (0,) * 8, q)

    def test_a_queue_alone_may_have_more_than_each_at_once(self):
        for town, counts in small_counts(8, 20, most=1):
            told = slack_of(town, counts)
            if told is not None:
                self.assertTrue(all(Fraction(*t) >= Fraction(*told[1]) for t in rooms(town, counts)))


class Factors(unittest.TestCase):
    def look(self, town, counts):
        f, shares, flows, prices = factor_of(town, counts)
        some = pairs_of([Fraction(*f) * number_of(count) for count in counts])
        self.assertIsNone(plain_judge_carried(town, some, ("carried", shares, flows)))
        self.assertTrue(are_plain_fractions(prices, town[0]) and all(u >= 0 for u, _ in prices))
        self.assertEqual(plain_total(counts, prices), 1)
        self.assertEqual(sum(plain_pull(town, prices, c) for c in range(len(town[1]))), Fraction(*f))
        self.assertEqual(Fraction(*f) >= 1, carried(town, counts)[0] == "carried")
        self.assertTrue(plain_is_fraction(f) and f[0] >= 0)
        return f

    def test_small_towns(self):
        found = [self.look(town, counts) for town, counts in small_counts(9, 100) if any(numbers_of(counts))]
        self.assertGreater(min(sum(u >= e for u, e in found), sum(u < e for u, e in found), found.count((0, 1))), 15)

    def test_a_factor_of_0(self):
        for counts in ((1, 1, 0, 0, 0), (0, 0, 0, 0, 10 ** 9 - 1), (0, 0, (1, 7), 0, 3)):
            self.assertEqual(self.look(SHUT, counts), (0, 1))
        self.assertEqual(self.look(SHUT, (1, 0, 0, 0, 0)), (6, 1))

    def test_just_carried(self):
        self.assertEqual([self.look(PLAIN, counts) for counts in ((2, 2), (4, 0), (1, 1), (3, 2), ((1, 10 ** 9), 0))],
                         [(1, 1), (1, 1), (2, 1), (4, 5), (4 * 10 ** 9, 1)])

    def test_wide_towns_and_great_counts(self):
        chance = random.Random(10)
        town = wide_town(chance)
        for most in (1, 10 ** 9 - 1):
            self.look(town, row_by_chance(chance, 7, most) + (1,))


class WhatCanCome(unittest.TestCase):
    def test_first_lost(self):
        chance = random.Random(11)
        for town in towns(20, seed=12):
            some = tuple(row_by_chance(chance, town[0], 1) for _ in range(4))
            lost = [k for k, counts in enumerate(some) if carried(town, counts)[0] == "grows"]
            self.assertEqual(first_lost(town, some), lost[0] if lost else None)
        self.assertEqual([first_lost(PLAIN, ((2, 3),)), first_lost(PLAIN, ((2, 2), ((3, 1), (1, 1)))),
                          first_lost(PLAIN, ((1, 1), (2, pair_of(2 + LEAST)), (9, 9))), first_lost(PLAIN, ())],
                         [0, None, 1, None])

    def test_mixed_counts(self):
        chance = random.Random(13)
        for _ in range(100):
            n, many = chance.randint(1, 5), chance.randint(1, 4)
            some = tuple(counts_by_chance(chance, n) for _ in range(many))
            parts = [0] * many
            for _ in range(7):
                parts[chance.randrange(many)] += 1
            shares = pairs_of([Fraction(part, 7) for part in parts])
            plain = pairs_of([sum(Fraction(*share) * number_of(counts[q]) for share, counts in zip(shares, some))
                              for q in range(n)])
            self.assertTrue(same(mixed_counts(some, shares), plain))
        self.assertEqual(mixed_counts(((3, (1, 2)),), ((1, 1),)), ((3, 1), (1, 2)))

    def test_greatest_of(self):
        self.assertEqual([greatest_of(((4, 0), (0, 4))), greatest_of(((3, 1, 2),)), greatest_of(((1, 9), (5, 2), (0, 7)))],
                         [(4, 4), (3, 1, 2), (5, 9)])
        self.assertTrue(plain_int(greatest_of(((4, 0), (0, 4)))[0]))

    def test_between_and_below_carried_ones(self):
        chance = random.Random(14)
        many = 0
        for town in towns(50, seed=15):
            some = [counts for counts in (row_by_chance(chance, town[0], 2) for _ in range(5))
                    if carried(town, counts)[0] == "carried"][:2]
            if len(some) == 2:
                many += 1
                part = Fraction(chance.randint(0, 5), 5)
                between = mixed_counts(tuple(some), pairs_of([part, 1 - part]))
                self.assertEqual(carried(town, between)[0], "carried")
                self.assertEqual(carried(town, tuple(chance.randint(0, count) for count in some[0]))[0], "carried")
        self.assertGreater(many, 10)


class Judged(unittest.TestCase):
    def test_slack(self):
        right = slack_of(PLAIN, (1, 1))
        word, e, shares, flows, prices = right
        big = (((3, 1), (3, 1)),)
        for value, fault in (
                (right, None), (right[:4], ("form",)), (list(right), ("form",)), (right + (1,), ("form",)),
                (("Slack",) + right[1:], ("form",)), ((True,) + right[1:], ("form",)), ((word, 1) + right[2:], ("form",)),
                ((word, (2, 2)) + right[2:], ("form",)), ((word, (-1, 1)) + right[2:], ("form",)),
                ((word, None, None, None, None), ("form",)), ((word, e, None, None, prices), ("carried", ("form",))),
                ((word, e, shares, flows, ((1, 1), (1, 1))), ("form",)), ((word, e, None, None, ((1, 1),)), ("form",)),
                ((word, e, None, None, ((3, 2), (-1, 2))), ("form",)), ((word, e, None, None, list(prices)), ("form",)),
                ((word, e, shares, flows[:0], prices), ("carried", ("form",))),
                ((word, e, shares, big, prices), ("carried", ("flow", 0, 0))),
                ((word, e, shares, (((-3, 1), (3, 1)),), prices), ("carried", ("below",))),
                ((word, e, (((1, 2),) * 3,), flows, prices), ("carried", ("share", 0))),
                ((word, (5, 4), shares, flows, prices), ("carried", ("queue", 0))),
                ((word, (1, 2), shares, flows, prices), ("prices",)), ((word, (0, 1), shares, flows, prices), ("prices",)),
                ((word, e, shares, flows, ((1, 1), (0, 1))), ("prices",))):
            self.assertEqual(judge_slack(PLAIN, (1, 1), value), fault, value)
        # Prices that let no more than 0 are right with the slack 0 alone.
        self.assertEqual(judge_slack(PLAIN, (3, 2), (word, (0, 1), shares, flows, HALF)), ("carried", ("queue", 0)))

    def test_steepest(self):
        right = steepest(PLAIN, (3, 2))
        amount, prices, shares, flows = right
        self.assertEqual((amount, prices), ((1, 2), HALF))
        for value, fault in (
                (right, None), (right[:3], ("form",)), (list(right), ("form",)), (right + ((),), ("form",)),
                ((0,) + right[1:], ("form",)), (((0, 1),) + right[1:], ("form",)), (((-1, 2),) + right[1:], ("form",)),
                (((2, 4),) + right[1:], ("form",)), ((amount, ((1, 1), (1, 1)), shares, flows), ("form",)),
                ((amount, ((1, 2),), shares, flows), ("form",)), ((amount, ((3, 2), (-1, 2)), shares, flows), ("form",)),
                ((amount, prices, shares), ("form",)), ((amount, prices, None, flows), ("form",)),
                ((amount, prices, shares, ()), ("form",)), ((amount, prices, shares, (((5, 2), (-3, 2)),)), ("form",)),
                ((amount, prices, (((2, 1), (-1, 1), (0, 1)),), flows), ("form",)), (((1, 3),) + right[1:], ("prices",)),
                ((amount, ((1, 1), (0, 1)), (((0, 1),) * 3,), flows), ("prices",)),
                ((amount, prices, (((0, 1),) * 3,), flows), ("share", 0)),
                ((amount, prices, (((1, 2),) * 3,), (((9, 1), (9, 1)),)), ("share", 0)),
                ((amount, prices, shares, (((9, 1), (0, 1)),)), ("flow", 0, 0)),
                ((amount, prices, shares, (((0, 1), (9, 1)),)), ("flow", 0, 1)),
                ((amount, prices, shares, (((0, 1), (0, 1)),)), ("queue", 0)),
                ((amount, prices, shares, (((5, 2), pair_of(Fraction(3, 2) - LEAST)),)), ("queue", 1))):
            self.assertEqual(judge_steepest(PLAIN, (3, 2), value), fault, value)

    def test_answers_with_one_thing_changed(self):
        chance = random.Random(16)
        for town in towns(10, seed=17, most_queues=3, most_crossings=2, length=6):
            counts = counts_by_chance(chance, town[0])
            told = slack_of(town, counts)
            judge, plain = judge_slack, plain_judge_slack
            if told is None:
                told, judge, plain = steepest(town, counts), judge_steepest, plain_judge_steepest
            for value in within(told):
                self.assertTrue(same(judge(town, counts, value), plain(town, counts, value)), value)

    def test_any_value(self):
        right = slack_of(PLAIN, (1, 1))
        for odd in ODD_VALUES:
            for value in (odd, ("slack", odd, odd, odd, odd), (odd,) + right[1:], right[:2] + (odd,) + right[3:],
                          right[:1] + (odd,) + right[2:], right[:3] + (odd,) + right[4:], right[:4] + (odd,)):
                self.assertTrue(same(judge_slack(PLAIN, (1, 1), value), plain_judge_slack(PLAIN, (1, 1), value)), value)
        steep = steepest(PLAIN, (3, 2))
        for odd in ODD_VALUES:
            for k in range(4):
                value = steep[:k] + (odd,) + steep[k + 1:]
                self.assertTrue(same(judge_steepest(PLAIN, (3, 2), value), plain_judge_steepest(PLAIN, (3, 2), value)), value)
            self.assertEqual(judge_steepest(PLAIN, (3, 2), odd), ("form",))


if __name__ == "__main__":
    unittest.main()
