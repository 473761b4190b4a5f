"""[3.1], [3.2], [3.4]: frame plans, their need and capacity."""

import random
import unittest

from greenheld.plans import capacity_of, is_above, is_plan, judge_plan, need_of
from greenheld.stages import clear_ticks, stages
from tests.support import EAST, ODD_VALUES, crossing_by_chance, plain_int, same, within
from tests.trying import plain_clearing, small_crossings

FREE = (((0, None), (1, None)), (), 12)


def plain_judge(crossing, value):
    many = len(stages(crossing))
    if type(value) is not tuple:
        return ("form",)
    for part in value:
        if type(part) is not tuple or len(part) != 2 or not plain_int(part[0]) or not plain_int(part[1]):
            return ("form",)
        if part[0] not in range(many) or part[1] < 1:
            return ("form",)
    for k in range(len(value) - 1):
        if value[k][0] == value[k + 1][0]:
            return ("twice", k + 1)
    need = sum(ticks + plain_clearing(crossing, stages(crossing)[s]) for s, ticks in value)
    return ("long", need) if need > crossing[2] else None


class Judged(unittest.TestCase):
    def judged(self, crossing, value, fault):
        self.assertTrue(same(judge_plan(crossing, value), fault), (value, judge_plan(crossing, value), fault))
        self.assertIs(is_plan(crossing, value), fault is None)

    def test_all_plans_that_fit(self):
        for crossing, plans in small_crossings(most=300):
            for plan, need, capacity in plans:
                self.judged(crossing, plan, None)
                self.assertEqual(need_of(crossing, plan), need)
                self.assertTrue(same(capacity_of(crossing, plan), capacity))

    def test_just_the_length_and_one_tick_more(self):
        self.judged(EAST, ((0, 10),), None)
        self.judged(EAST, ((0, 11),), ("long", 13))
        self.judged(EAST, ((1, 9),), None)
        self.judged(EAST, ((1, 10),), ("long", 13))
        self.judged(EAST, ((0, 3), (1, 4)), None)
        self.judged(EAST, ((0, 4), (1, 4)), ("long", 13))
        for length in range(1, 13):
            self.judged(FREE[:2] + (length,), ((0, length),), None)
            self.judged(FREE[:2] + (length,), ((0, length + 1),), ("long", length + 1))

    def test_all_red(self):
        for crossing in (EAST, FREE, FREE[:2] + (1,)):
            self.judged(crossing, (), None)
            self.assertEqual([need_of(crossing, ()), set(capacity_of(crossing, ()))], [0, {0}])

    def test_a_stage_twice(self):
        self.judged(EAST, ((0, 1), (1, 1), (0, 1)), None)
        self.judged(EAST, ((0, 1), (0, 1), (0, 1)), ("twice", 1))
        self.judged(EAST, ((0, 1), (1, 1), (1, 1), (0, 1), (0, 1)), ("twice", 2))
        self.judged(EAST, ((0, 99), (0, 1)), ("twice", 1))
        self.judged(EAST, ((0, 99), (0, 0)), ("form",))

    def test_form(self):
        for value in ([], [(0, 1)], ([0, 1],), ((0,),), ((0, 1, 1),), ((2, 1),), ((-1, 1),), ((0, 0),), ((0, -1),),
                      ((0, 1), (0, None)), ((False, 1),), ((0, True),), (0, 1), ((0, "1"),), None, 0, "", {}):
            self.judged(EAST, value, ("form",))

    def test_clearances_greater_than_the_length(self):
        crossing = (((0, None), (1, None)), ((0, 1, 13, 0),), 12)
        self.judged(crossing, ((0, 1),), ("long", 14))
        self.judged(crossing, ((1, 12),), None)

    def test_any_value(self):
        chance = random.Random(1)
        for crossing in [EAST, FREE] + [crossing_by_chance(chance, many, 12) for many in range(1, 7)]:
            for value in list(ODD_VALUES) + within(((0, 2), (len(stages(crossing)) - 1, 1))):
                self.judged(crossing, value, plain_judge(crossing, value))

    def test_great_numbers(self):
        plan = ((0, 10 ** 9 - 1), (1, 10 ** 9 - 1)) * 6
        self.assertEqual(need_of(EAST, plan), 12 * (10 ** 9 - 1) + 6 * 5)
        self.assertEqual(capacity_of(EAST, plan), (6 * (10 ** 9 - 2),) * 3)
        self.judged(EAST, plan, ("long", 12 * (10 ** 9 - 1) + 6 * 5))


class Capacities(unittest.TestCase):
    def test_by_chance(self):
        chance = random.Random(2)
        for many in range(1, 7):
            for _ in range(10):
                crossing = crossing_by_chance(chance, many, 12)
                members = stages(crossing)
                plan = tuple((chance.randrange(len(members)), chance.randint(1, 20)) for _ in range(chance.randint(0, 12)))
                told = [0] * many
                for s, ticks in plan:
                    for i in members[s]:
                        told[i] += ticks - 1
                self.assertTrue(same(capacity_of(crossing, plan), tuple(told)))
                self.assertEqual(need_of(crossing, plan), sum(t + clear_ticks(crossing, s) for s, t in plan))

    def test_the_first_tick_lets_none(self):
        self.assertEqual(capacity_of(EAST, ((0, 1), (1, 1))), (0, 0, 0))
        self.assertEqual(capacity_of(EAST, ((0, 2), (1, 1))), (1, 0, 0))

    def test_is_above(self):
        chance = random.Random(3)
        for _ in range(500):
            one, other = [tuple(chance.randint(0, 2) for _ in range(3)) for _ in range(2)]
            told = not any(a < b for a, b in zip(one, other)) and any(a > b for a, b in zip(one, other))
            self.assertIs(is_above(one, other), told)


if __name__ == "__main__":
    unittest.main()
