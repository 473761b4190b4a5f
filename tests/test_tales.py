"""[10.5] to [10.8]: tales, what they let, and that an interlock shows just those that are right."""

import random
import unittest
from itertools import product

from greenheld.interlock import new_interlock
from greenheld.lamps import judge_lamps, lamp_rows
from greenheld.leading import leading_plans
from greenheld.tales import cars_let, judge_tale, tale_of, wishes_for
from tests.locks import PlainLock, all_greens, crossings, free_greens, greens_by_chance, happenings_by_chance, is_greens
from tests.locks import waits, widest
from tests.plain import plan_by_chance
from tests.support import EAST, ODD_VALUES, plain_int, same, within

C = (((0, None), (1, None), (2, None)), ((0, 1, 2, 1),), 8)
SMALL = [(((0, None), (1, None)), ((0, 1, a, b),), 4) for a in range(3) for b in range(3)]


def plain_judge_tale(crossing, tale):
    if type(tale) is not tuple or not all(is_greens(crossing, row) for row in tale):
        return ("form",)
    for t in range(1, len(tale) + 1):
        pairs = [(i, j) for i in range(len(crossing[0])) for j in range(len(crossing[0]))
                 if waits(crossing, i, j) is not None]
        for i, j in pairs:
            if i < j and i in tale[t - 1] and j in tale[t - 1]:
                return ("both", t, i, j)
        for i, j in pairs:
            if j in tale[t - 1] and (t == 1 or j not in tale[t - 2]):
                ticks = [k for k in range(1, t) if i in tale[k - 1]]
                if ticks and t - max(ticks) < waits(crossing, i, j) + 1:
                    return ("early", t, i, j)
    return None


def tale_by_chance(chance, crossing, ticks):
    """Tales of all kinds: stretches of free greens, red between them, here and there a movement more."""
    tale = []
    while len(tale) < ticks:
        tale.extend([free_greens(chance, crossing)] * chance.randint(1, 4))
        tale.extend([()] * chance.choice((0, 0, 1, 2, widest(crossing))))
        if chance.random() < 0.1:
            tale.append(greens_by_chance(chance, len(crossing[0])))
    return tuple(tale[:ticks])


def wished_tale(crossing, tale, first=0):
    """What the interlock shows of a tale, whose wishes are heard right ahead of its ticks."""
    quiet = widest(crossing)
    happenings = [("tick",)] * quiet
    for wish in wishes_for(tale, first):
        happenings.extend([("wish", wish), ("tick",)])
    return tale_of(crossing, happenings)[1][quiet:]


class Judged(unittest.TestCase):
    def test_faults(self):
        for tale, fault in ((((0,), (0,), (), (), (1,)), None), (((0,), (0,), (), (1,)), ("early", 4, 0, 1)),
                            (((1,), (), (0,)), None), (((1,), (0,)), ("early", 2, 1, 0)), (((0, 1),), ("both", 1, 0, 1)),
                            (((0,), (0, 1)), ("both", 2, 0, 1)), (((0, 2), (1, 2)), ("early", 2, 0, 1)), ((), None), (((),), None),
                            (((2,), (0, 2), (2,), (), (1, 2)), None), (((0,), (), (0,), (), (1,)), ("early", 5, 0, 1)),
                            (((0,), (1,), (0, 1)), ("early", 2, 0, 1)), (((1,), (0, 1), (0,)), ("both", 2, 0, 1)),
                            ([(0,)], ("form",)), (([0],), ("form",)), (((1, 0),), ("form",)), (((0, 0),), ("form",)),
                            (((3,),), ("form",)), (((-1,),), ("form",)), (((True,),), ("form",)), (((0,), None), ("form",)),
                            ((0,), ("form",)), (None, ("form",)), (((0, 1), (1, 0)), ("form",)), (((0, False),), ("form",))):
            self.assertEqual(judge_tale(C, tale), fault, tale)

    def test_the_least_pair_of_the_least_tick(self):
        every = (tuple((q, None) for q in range(4)), tuple((i, j, 1, 2) for i in range(4) for j in range(i + 1, 4)), 9)
        self.assertEqual([judge_tale(every, tale) for tale in (
            ((1, 2, 3),), ((3,), (2,)), ((3,), (), (2,)), ((0,), (), (1,), (2,)), ((2,), (), (1,), (), (), (0,), (3,)), ((1,), (0, 2)))],
            [("both", 1, 1, 2), ("early", 2, 3, 2), ("early", 3, 3, 2), ("early", 4, 1, 2), ("early", 3, 2, 1), ("both", 2, 0, 2)])
        # Two are early in one tick: the least pair of both, whichever of them waits.
        pairs = (tuple((q, None) for q in range(4)), ((0, 3, 2, 2), (1, 2, 2, 2)), 9)
        self.assertEqual([judge_tale(pairs, ((0, 1), (2, 3))), judge_tale(pairs, ((1, 3), (0, 2))), judge_tale(pairs, ((2, 3), (0, 1)))],
                         [("early", 2, 0, 3), ("early", 2, 1, 2), ("early", 2, 2, 1)])

    def test_all_small_tales(self):
        for crossing in SMALL:
            for ticks in range(5):
                for tale in product(all_greens(2), repeat=ticks):
                    told = judge_tale(crossing, tale)
                    self.assertTrue(same(told, plain_judge_tale(crossing, tale)), tale)
                    self.assertEqual(told is None, judge_lamps(crossing, tale) is None)

    def test_tales_by_chance(self):
        chance = random.Random(1)
        words = []
        for crossing in crossings(chance, 400):
            tale = tale_by_chance(chance, crossing, chance.randint(0, 40))
            told = judge_tale(crossing, tale)
            self.assertTrue(same(told, plain_judge_tale(crossing, tale)))
            self.assertEqual(told is None, judge_lamps(crossing, list(tale)) is None)
            words.append(told and told[0])
        self.assertGreater(min(words.count(word) for word in (None, "both", "early")), 30)

    def test_what_is_near_and_any_value(self):
        chance = random.Random(2)
        for crossing in crossings(chance, 12):
            for value in within(tale_by_chance(chance, crossing, 4)) + list(ODD_VALUES) + [(odd,) for odd in ODD_VALUES]:
                self.assertTrue(same(judge_tale(crossing, value), plain_judge_tale(crossing, value)), value)
        for odd in ODD_VALUES:
            for value in (((odd,),), ((), odd), ((0, odd),)):
                self.assertTrue(same(judge_tale(C, value), plain_judge_tale(C, value)), value)

    def test_cars_let(self):
        chance = random.Random(3)
        for crossing in crossings(chance, 100):
            tale = tale_by_chance(chance, crossing, chance.randint(0, 30))
            plain = []
            for i in range(len(crossing[0])):
                stretches = "".join("g" if i in row else " " for row in tale).split()
                plain.append(sum(len(stretch) - 1 for stretch in stretches))
            self.assertTrue(same(cars_let(crossing, tale), tuple(plain)))
        self.assertEqual([cars_let(C, ()), cars_let(C, ((0, 1, 2),)), cars_let(C, ((0,), (), (0,))), cars_let(C, ((1,),) * 9)],
                         [(0, 0, 0), (0, 0, 0), (0, 0, 0), (0, 8, 0)])


class Happenings(unittest.TestCase):
    def test_no_two_that_cross_are_green_together_or_too_soon(self):
        chance = random.Random(4)
        seen = 0
        for crossing in crossings(chance, 400):
            happenings = happenings_by_chance(chance, crossing, 120, lamps=chance.choice((0, 0.1, 0.3)), falls=chance.choice((0, 0.03)))
            interlock, tale = tale_of(crossing, happenings)
            self.assertIsNone(judge_tale(crossing, tale))
            self.assertIsNone(plain_judge_tale(crossing, tale))
            plain, t = PlainLock(crossing), 0
            for happening in happenings:
                if happening[0] == "tick":
                    self.assertEqual(tale[t], plain.tick())
                    # Beside a foe whose red lamp is out nothing is green.
                    self.assertFalse(any(waits(crossing, i, j) is not None for i in tale[t] for j in plain.dark))
                    self.assertFalse(any(i in plain.faint for i in tale[t]))
                    seen += len(tale[t])
                    t += 1
                elif happening[0] == "fall":
                    plain = PlainLock(crossing)
                else:
                    (plain.wish if happening[0] == "wish" else plain.lamp)(happening[1])
            self.assertEqual(t, len(tale))
            self.assertTrue(same(interlock, plain.view()))
        self.assertGreater(seen, 5000)

    def test_the_first_ticks_behind_a_fall(self):
        wish = lambda number, movements: ("wish", (number, movements, 12))
        happenings = [wish(1, (0,)), ("tick",), ("tick",), ("tick",), ("fall",), wish(1, (1, 2)), ("tick",), ("tick",), ("tick",)]
        interlock, tale = tale_of(C, happenings)
        self.assertEqual(tale, ((), (), (0,), (), (), (1, 2)))
        self.assertEqual([interlock["time"], interlock["taken"], interlock["ended"]], [3, 1, ()])
        dark = [("lamp", ("red", 0, False)), ("lamp", ("green", 2, False)), wish(9, (0, 1, 2)), ("fall",)]
        self.assertEqual(tale_of(C, dark), (new_interlock(C), ()))

    def test_nothing_happens(self):
        self.assertEqual([tale_of(C, []), tale_of(C, [("fall",)]), tale_of(C, ())], [(new_interlock(C), ())] * 3)
        self.assertEqual(tale_of(C, [("wish", None), ("lamp", [1]), ("tick",)])[1], ((),))


class HindersNothing(unittest.TestCase):
    def test_wishes_for(self):
        self.assertEqual([wishes_for(((0,), ()), 4), wishes_for((), 7), wishes_for(((), (0, 2)), 0)],
                         [((5, (0,), 1), (6, (), 1)), (), ((1, (), 1), (2, (0, 2), 1))])
        self.assertTrue(all(plain_int(part) for number, _, ticks in wishes_for(((0,),) * 9, 10 ** 9) for part in (number, ticks)))

    def test_all_small_tales(self):
        for crossing in SMALL:
            for ticks in range(5):
                for tale in product(all_greens(2), repeat=ticks):
                    self.assertEqual(wished_tale(crossing, tale) == tale, plain_judge_tale(crossing, tale) is None, tale)

    def test_tales_by_chance(self):
        chance = random.Random(5)
        words = []
        for crossing in crossings(chance, 500):
            tale = tale_by_chance(chance, crossing, chance.randint(0, 40))
            is_right = judge_tale(crossing, tale) is None
            self.assertEqual(wished_tale(crossing, tale, chance.choice((0, 7))) == tale, is_right)
            words.append(is_right)
        self.assertGreater(min(words.count(True), words.count(False)), 100)

    def test_plans_are_shown_as_they_are(self):
        chance = random.Random(6)
        for crossing in crossings(chance, 80) + [EAST]:
            plans = [chance.choice((plan_by_chance(chance, crossing), chance.choice(leading_plans(crossing)))) for _ in range(6)]
            tale = tuple(lamp_rows(crossing, plans))
            self.assertIsNone(judge_tale(crossing, tale))
            self.assertEqual(wished_tale(crossing, tale), tale)

    def test_two_hundred_ticks(self):
        chance = random.Random(7)
        crossing = crossings(chance, 9)[8]
        tale = tale_by_chance(chance, crossing, 200)
        self.assertTrue(same(judge_tale(crossing, tale), plain_judge_tale(crossing, tale)))
        self.assertEqual(len(wishes_for(tale, 0)), 200)


if __name__ == "__main__":
    unittest.main()
