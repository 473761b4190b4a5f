"""[11.1] to [11.3], [11.7], [11.8]: wishes, what offsets keep, rings, and the best offsets."""

import random
import unittest
from itertools import combinations, product

from greenheld.waves import (best_offsets, judge_ring, kept, least_dropped, offsets_for, turned_offsets, wish_of)
from tests.support import ODD_VALUES, plain_int, same, within

ODD, EVEN = ((0, 1, 3), (1, 2, 4), (2, 0, 5)), ((0, 1, 3), (1, 2, 4), (2, 0, 3))


def plain_kept(wishes, L, offsets):
    """Turns the frames of other on, tick by tick, till its offset comes."""
    found = []
    for w, (one, other, ticks) in enumerate(wishes):
        at = offsets[one]
        for _ in range(ticks % L):
            at = 0 if at == L - 1 else at + 1
        if at == offsets[other]:
            found.append(w)
    return tuple(found)


def lots(m, wishes):
    """The lots of crossings that wishes tie together."""
    names = list(range(m))
    for one, other, _ in wishes:
        names = [names[one] if name == names[other] else name for name in names]
    return [[c for c in range(m) if names[c] == name] for name in sorted(set(names))]


def all_tries(m, L):
    return list(product(range(L), repeat=m))


def wishes_by_chance(chance, m, many, ticks):
    found = []
    while len(found) < many and m > 1:
        one, other = chance.sample(range(m), 2)
        found.append((one, other, chance.choice((0, chance.randint(-ticks, ticks)))))
    return tuple(found)


def kept_ones(chance, m, L, many, ticks):
    """Wishes that some offsets keep, whatever rings they make."""
    offsets = [chance.randrange(L) for _ in range(m)]
    return tuple((one, other, offsets[other] - offsets[one] + L * chance.randint(-ticks, ticks))
                 for one, other, _ in wishes_by_chance(chance, m, many, 0))


def plain_judge_ring(wishes, L, value):
    if type(value) is not tuple or not value:
        return ("form",)
    for pair in value:
        if type(pair) is not tuple or len(pair) != 2 or not all(plain_int(number) for number in pair):
            return ("form",)
        if not 0 <= pair[0] < len(wishes) or abs(pair[1]) != 1:
            return ("form",)
    if len({w for w, _ in value}) < len(value):
        return ("form",)
    passed = [wishes[w][:2] if sign == 1 else wishes[w][1::-1] for w, sign in value]
    steps = [k for k in range(len(passed)) if passed[k][0] != passed[k - 1][1]]
    if steps:
        return ("step", steps[0])
    begins = [begin for begin, _ in passed]
    twice = [c for c in begins if begins.count(c) > 1]
    if twice:
        return ("twice", min(twice))
    whole = 0
    for w, sign in value:
        whole += wishes[w][2] if sign == 1 else -wishes[w][2]
    return ("even",) if whole / L == whole // L and whole % L == 0 else None


class Wishes(unittest.TestCase):
    def test_wish_of(self):
        self.assertEqual([wish_of(0, 2, 1, 5, 9), wish_of(3, -4, 0, 0, 0), wish_of(1, 10 ** 9, 2, -10 ** 9, 1000)],
                         [(0, 1, 6), (3, 0, -4), (1, 2, 2 * 10 ** 9 + 1000)])
        # Who leaves one at the begin of its green comes to other at its green's begin, if the wish is kept.
        chance = random.Random(1)
        for _ in range(100):
            L, begin, late, time = chance.randint(1, 20), chance.randint(-30, 30), chance.randint(-30, 30), chance.randint(0, 50)
            wish = wish_of(0, begin, 1, late, time)
            for offsets in all_tries(2, L):
                comes_in_time = (offsets[0] + begin + time) % L == (offsets[1] + late) % L
                self.assertEqual(kept((wish,), L, offsets) == (0,), comes_in_time)

    def test_kept(self):
        chance = random.Random(2)
        for _ in range(200):
            m, L = chance.randint(1, 8), chance.choice((1, 2, 7, 120))
            wishes = wishes_by_chance(chance, m, chance.randint(0, 20), chance.choice((3, 500)))
            offsets = tuple(chance.randrange(L) for _ in range(m))
            self.assertTrue(same(kept(wishes, L, offsets), plain_kept(wishes, L, offsets)))
        self.assertEqual([kept((), 5, (0, 1)), kept(((0, 1, -1), (1, 0, 1)), 10, (0, 9)), kept(((0, 1, 10 ** 9),), 120, (0, 40))],
                         [(), (0, 1), (0,)])

    def test_turned(self):
        self.assertEqual([turned_offsets((0, 3, 7), 10, 4), turned_offsets((0, 3, 7), 10, -4), turned_offsets((0,), 1, 5),
                          turned_offsets((2, 9), 10, 10 ** 9 + 1), turned_offsets((2, 9), 10, 0)],
                         [(4, 7, 1), (6, 9, 3), (0,), (3, 0), (2, 9)])


class OffsetsOrRing(unittest.TestCase):
    def judged(self, m, wishes, L):
        """Looks at an answer of offsets_for; returns its word."""
        word, told = offsets_for(m, wishes, L)
        if word == "offsets":
            self.assertTrue(type(told) is tuple and len(told) == m and all(plain_int(t) and 0 <= t < L for t in told))
            self.assertEqual(plain_kept(wishes, L, told), tuple(range(len(wishes))))
            self.assertEqual({told[lot[0]] for lot in lots(m, wishes)}, {0})
        else:
            self.assertEqual(word, "ring")
            self.assertIsNone(plain_judge_ring(wishes, L, told))
            self.assertIsNone(judge_ring(m, wishes, L, told))
        return word

    def test_just_one_by_all_offsets(self):
        chance = random.Random(3)
        words = []
        for _ in range(400):
            m, L = chance.randint(1, 4), chance.randint(1, 5)
            wishes = wishes_by_chance(chance, m, chance.randint(0, 5), chance.choice((2, 12)))
            some = any(len(plain_kept(wishes, L, offsets)) == len(wishes) for offsets in all_tries(m, L))
            self.assertEqual(self.judged(m, wishes, L), "offsets" if some else "ring")
            words.append(some)
        self.assertGreater(min(words.count(True), words.count(False)), 60)

    def test_exactly_if_no_ring_has_an_uneven_sum(self):
        chance = random.Random(4)
        for _ in range(60):
            m, L = chance.randint(2, 4), chance.randint(1, 4)
            wishes = wishes_by_chance(chance, m, chance.randint(1, 4), 6)
            rings = [ring for size in range(2, m + 1) for order in product(range(len(wishes)), repeat=size)
                     for signs in product((1, -1), repeat=size) for ring in [tuple(zip(order, signs))]
                     if plain_judge_ring(wishes, L, ring) is None]
            self.assertEqual(self.judged(m, wishes, L), "ring" if rings else "offsets")
            self.assertTrue(all(judge_ring(m, wishes, L, ring) is None for ring in rings))

    def test_eight_crossings_and_twenty_wishes(self):
        chance = random.Random(5)
        words = []
        for _ in range(200):
            m, L = 8, chance.choice((1, 2, 60, 120))
            many = chance.choice((5, 7, 9, 20))
            self.assertEqual(self.judged(m, kept_ones(chance, m, L, many, 10 ** 7), L), "offsets")
            words.append(self.judged(m, wishes_by_chance(chance, m, many, 10 ** 9), L))
        self.assertGreater(min(words.count("offsets"), words.count("ring")), 40)

    def test_edges(self):
        self.assertEqual([offsets_for(3, (), 10), offsets_for(1, (), 1), offsets_for(4, ((3, 1, -2),), 10),
                          offsets_for(3, ((2, 1, -10 ** 9 + 1),), 10)],
                         [("offsets", (0, 0, 0)), ("offsets", (0,)), ("offsets", (0, 0, 0, 2)), ("offsets", (0, 0, 9))])
        # With L 1 all are kept, whatever rings there are.
        self.assertEqual(offsets_for(3, ODD, 1), ("offsets", (0, 0, 0)))
        # Two wishes between the same crossings, one way and both ways.
        for two, word in ((((0, 1, 3), (0, 1, 13)), "offsets"), (((0, 1, 3), (0, 1, 4)), "ring"),
                          (((0, 1, 3), (1, 0, -3)), "offsets"), (((0, 1, 3), (1, 0, 3)), "ring"), (((0, 1, 5), (1, 0, 5)), "offsets")):
            self.assertEqual(self.judged(2, two, 10), word)
        self.assertEqual(self.judged(8, tuple((c, (c + 1) % 8, 15) for c in range(8)), 120), "offsets")
        self.assertEqual(self.judged(8, tuple((c, (c + 1) % 8, 15 + (c == 3)) for c in range(8)), 120), "ring")


class RingsJudged(unittest.TestCase):
    def test_faults(self):
        ring = ((0, 1), (1, 1), (2, 1))
        for value, fault in ((ring, None), (ring[1:] + ring[:1], None), (((2, -1), (1, -1), (0, -1)), None), (((0, 1), (2, 1)), ("step", 1)),
                             (((0, 1), (1, 1)), ("step", 0)), (((0, -1), (1, 1), (2, 1)), ("step", 0)), (((0, 1), (1, -1), (2, 1)), ("step", 1)),
                             (((0, 1),), ("step", 0)), ((), ("form",)), (((0, 1), (1, 1), (2, 1), (0, 1)), ("form",)),
                             (((0, 1), (0, -1)), ("form",)), (((0, 1), (1, 2), (2, 1)), ("form",)), (((0, 0), (1, 1), (2, 1)), ("form",)),
                             (((0, True), (1, 1), (2, 1)), ("form",)), (((False, 1), (1, 1), (2, 1)), ("form",)), (list(ring), ("form",)),
                             (([0, 1], (1, 1), (2, 1)), ("form",)), (((0, 1, 1), (1, 1), (2, 1)), ("form",)), (((0,), (1, 1), (2, 1)), ("form",)),
                             (((3, 1), (1, 1), (2, 1)), ("form",)), (((-1, 1), (1, 1), (2, 1)), ("form",)), ("ring", ("form",))):
            self.assertEqual(judge_ring(3, ODD, 10, value), fault, value)
        self.assertEqual([judge_ring(3, EVEN, 10, ring), judge_ring(3, ODD, 12, ring), judge_ring(3, ODD, 1, ring), judge_ring(3, (), 4, ring)],
                         [("even",), ("even",), ("even",), ("form",)])

    def test_crossings_passed_twice(self):
        eight = ((0, 1, 1), (1, 0, 1), (2, 0, 1), (0, 2, 0), (1, 2, 1), (2, 1, 1))
        self.assertEqual(judge_ring(3, eight, 5, ((0, 1), (1, 1), (3, 1), (2, 1))), ("twice", 0))
        self.assertEqual(judge_ring(3, eight, 5, ((0, 1), (4, 1), (5, 1), (1, 1))), ("twice", 1))
        self.assertEqual(judge_ring(3, eight, 5, ((4, 1), (5, 1), (1, 1), (0, 1))), ("twice", 1))
        self.assertEqual(judge_ring(3, eight, 5, ((0, 1), (1, 1), (2, -1), (3, -1), (4, 1), (5, 1))), ("step", 0))
        self.assertEqual(judge_ring(3, eight, 5, ((0, 1), (4, 1), (2, 1), (1, -1), (5, -1), (3, -1))), ("twice", 0))
        # Of all begins that stand twice the least one; steps go ahead of them.
        self.assertEqual(judge_ring(3, eight, 5, ((4, 1), (2, 1), (3, 1), (5, 1), (1, 1), (0, 1))), ("twice", 0))
        self.assertEqual(judge_ring(3, eight, 5, ((0, 1), (1, 1), (4, 1), (2, 1))), ("step", 2))

    def test_by_chance(self):
        chance = random.Random(6)
        faults = []
        for _ in range(6000):
            m, L = chance.randint(2, 4), chance.choice((1, 2, 3, 10))
            wishes = wishes_by_chance(chance, m, chance.randint(1, 6), 12)
            value, at = [], chance.randrange(m)
            for _ in range(chance.randint(1, 5)):
                on = [(w, sign) for w, wish in enumerate(wishes) for sign in (1, -1) if wish[0 if sign == 1 else 1] == at]
                on = on if on and chance.random() < 0.95 else [(chance.randrange(len(wishes)), chance.choice((1, -1)))]
                value.append(chance.choice(on))
                at = wishes[value[-1][0]][1 if value[-1][1] == 1 else 0]
            told = judge_ring(m, wishes, L, tuple(value))
            self.assertTrue(same(told, plain_judge_ring(wishes, L, tuple(value))), (wishes, value))
            faults.append(told and told[0])
        self.assertGreater(min(faults.count(fault) for fault in (None, "form", "step", "twice", "even")), 20)

    def test_what_is_near_and_any_value(self):
        for wishes in (ODD, EVEN):
            for value in within(((0, 1), (1, 1), (2, 1))) + list(ODD_VALUES) + [(odd,) for odd in ODD_VALUES]:
                self.assertTrue(same(judge_ring(3, wishes, 10, value), plain_judge_ring(wishes, 10, value)), value)
        for odd in ODD_VALUES:
            for value in (((odd, 1), (1, 1)), ((0, odd), (1, 1)), ((0, 1), odd)):
                self.assertTrue(same(judge_ring(3, ODD, 10, value), plain_judge_ring(ODD, 10, value)), value)


class Best(unittest.TestCase):
    def test_best_offsets_by_all_tries(self):
        chance = random.Random(7)
        for _ in range(120):
            m, L = chance.randint(1, 4), chance.randint(1, 6)
            wishes = wishes_by_chance(chance, m, chance.randint(0, 8), 15)
            weights = tuple(chance.choice((0, 1, 1, 2, 10 ** 9)) for _ in wishes)
            tries = [(-sum(weights[w] for w in plain_kept(wishes, L, offsets)), offsets)
                     for offsets in all_tries(m, L) if offsets[0] == 0]
            worth, offsets = min(tries)
            self.assertTrue(same(best_offsets(m, wishes, weights, L), (-worth, offsets)))

    def test_best_offsets_edges(self):
        self.assertEqual([best_offsets(3, (), (), 12), best_offsets(1, (), (), 1), best_offsets(4, ODD, (0, 0, 0), 12),
                          best_offsets(2, ((0, 1, 5), (0, 1, 3)), (2, 2), 10), best_offsets(2, ((0, 1, 5), (0, 1, -3)), (2, 3), 10),
                          best_offsets(3, ((1, 2, -1),), (1,), 12)],
                         [(0, (0, 0, 0)), (0, (0,)), (0, (0, 0, 0, 0)), (2, (0, 3)), (3, (0, 7)), (1, (0, 0, 11))])

    def test_best_offsets_keep_all_that_can_be_kept(self):
        chance = random.Random(8)
        for _ in range(6):
            wishes = kept_ones(chance, 4, 12, 20, 10 ** 7)
            self.assertEqual(best_offsets(4, wishes, (1,) * 20, 12)[0], 20)

    def test_least_dropped_by_all_lots(self):
        chance = random.Random(9)
        sizes = set()
        for _ in range(150):
            m, L = chance.randint(1, 3), chance.randint(1, 4)
            wishes = wishes_by_chance(chance, m, chance.randint(0, 6), 9)
            tries = [set(plain_kept(wishes, L, offsets)) for offsets in all_tries(m, L)]
            lot = min((len(lot), lot) for size in range(len(wishes) + 1) for lot in combinations(range(len(wishes)), size)
                      if any(set(range(len(wishes))) - set(lot) <= found for found in tries))
            self.assertTrue(same(least_dropped(m, wishes, L), lot))
            sizes.add(lot[0])
        self.assertGreaterEqual(sizes, {0, 1, 2, 3})

    def test_least_dropped_edges(self):
        every = tuple((0, 1, ticks) for ticks in range(10))
        self.assertEqual([least_dropped(2, (), 5), least_dropped(2, every, 120), least_dropped(2, every, 1), least_dropped(2, every, 2),
                          least_dropped(8, ODD[:2], 5), least_dropped(3, ODD + ODD, 10)],
                         [(0, ()), (9, tuple(range(9))), (0, ()), (5, (0, 2, 4, 6, 8)), (0, ()), (2, (0, 3))])


class Always(unittest.TestCase):
    def test_turning_keeps_what_is_kept(self):
        chance = random.Random(10)
        for _ in range(150):
            m, L = chance.randint(1, 8), chance.choice((1, 5, 12, 120))
            wishes = wishes_by_chance(chance, m, chance.randint(0, 12), L)
            offsets = tuple(chance.randrange(L) for _ in range(m))
            told, ticks = kept(wishes, L, offsets), chance.randint(-10 ** 9, 10 ** 9)
            self.assertEqual(kept(wishes, L, turned_offsets(offsets, L, ticks)), told)
            lot = chance.choice(lots(m, wishes))
            turned = tuple((offset + ticks) % L if c in lot else offset for c, offset in enumerate(offsets))
            self.assertEqual(kept(wishes, L, turned), told)

    def test_webs_without_rings(self):
        chance = random.Random(11)
        for _ in range(150):
            m, L = chance.randint(1, 8), chance.randint(1, 120)
            order = chance.sample(range(m), m)
            wishes = []
            for k in range(1, m):
                if chance.random() < 0.8:
                    pair = [order[k], order[chance.randrange(k)]]
                    chance.shuffle(pair)
                    wishes.append((pair[0], pair[1], chance.randint(-10 ** 9, 10 ** 9)))
            chance.shuffle(wishes)
            self.assertEqual(offsets_for(m, tuple(wishes), L)[0], "offsets")

    def test_one_tick_keeps_all(self):
        chance = random.Random(12)
        for _ in range(40):
            m = chance.randint(1, 8)
            wishes = wishes_by_chance(chance, m, 20, 10 ** 9)
            self.assertEqual(kept(wishes, 1, (0,) * m), tuple(range(len(wishes))))
            self.assertEqual(offsets_for(m, wishes, 1), ("offsets", (0,) * m))

    def test_wishes_turned_about(self):
        chance = random.Random(13)
        for _ in range(100):
            m, L = chance.randint(2, 8), chance.choice((1, 4, 60))
            wishes = wishes_by_chance(chance, m, 15, L + 3)
            about = tuple((other, one, -ticks) if chance.random() < 0.6 else (one, other, ticks) for one, other, ticks in wishes)
            offsets = tuple(chance.randrange(L) for _ in range(m))
            self.assertEqual(kept(about, L, offsets), kept(wishes, L, offsets))
            self.assertEqual(offsets_for(m, about, L)[0], offsets_for(m, wishes, L)[0])


if __name__ == "__main__":
    unittest.main()
