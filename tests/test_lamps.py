"""[3.2], [3.3]: greens and lamps, and what must never be shown."""

import random
import unittest

from greenheld.lamps import greens, judge_lamps, lamp_rows, lamps_at
from greenheld.stages import stages
from greenheld.towns import clearance, do_cross
from tests.support import EAST, crossing_by_chance, same
from tests.trying import plain_clearing, small_crossings


def plain_rows(crossing, plan):
    """The lamps of a frame, as one goes along the plan."""
    rows = []
    for s, ticks in plan:
        rows += [stages(crossing)[s]] * ticks + [()] * plain_clearing(crossing, stages(crossing)[s])
    return rows + [()] * (crossing[2] - len(rows))


def plain_judge(crossing, rows):
    crossed = [("crossed", tick, i, j) for tick, row in enumerate(rows) for i in row for j in row
               if i < j and do_cross(crossing, i, j)]
    if crossed:
        return min(crossed)
    early = []
    for tick, row in enumerate(rows):
        for j in row:
            if tick and j in rows[tick - 1]:
                continue
            for i in range(len(crossing[0])):
                lit = [t for t in range(tick) if i in rows[t]]
                if do_cross(crossing, i, j) and lit and tick - lit[-1] - 1 < clearance(crossing, i, j):
                    early.append(("early", tick, i, j))
    return min(early) if early else None


class Greens(unittest.TestCase):
    def test_frames_of_all_plans(self):
        for crossing, plans in small_crossings(seed=2, most=200):
            for plan, _, _ in plans[::3]:
                rows = plain_rows(crossing, plan)
                self.assertEqual(len(rows), crossing[2])
                self.assertTrue(same(lamp_rows(crossing, [plan]), rows))
                self.assertTrue(same([lamps_at(crossing, plan, tick) for tick in range(crossing[2])], rows))
                told = []
                at = 0
                for s, ticks in plan:
                    told += [(i, at, at + ticks) for i in stages(crossing)[s]]
                    at += ticks + plain_clearing(crossing, stages(crossing)[s])
                self.assertTrue(same(greens(crossing, plan), tuple(sorted(told))))

    def test_one_green_for_each_pair(self):
        crossing = (((0, None), (1, None), (2, None)), ((1, 2, 0, 0),), 12)
        self.assertEqual(stages(crossing), ((0, 1), (0, 2)))
        self.assertEqual(greens(crossing, ((1, 3), (0, 2), (1, 1))),
                         ((0, 0, 3), (0, 3, 5), (0, 5, 6), (1, 3, 5), (2, 0, 3), (2, 5, 6)))
        self.assertEqual([lamps_at(crossing, ((1, 3), (0, 2)), tick) for tick in (0, 2, 3, 4, 5, 11)],
                         [(0, 2), (0, 2), (0, 1), (0, 1), (), ()])

    def test_all_red(self):
        self.assertEqual([greens(EAST, ()), lamps_at(EAST, (), 0), lamp_rows(EAST, [()]), lamp_rows(EAST, [])],
                         [(), (), [()] * 12, []])

    def test_rows_are_the_callers_own(self):
        plans = [((0, 4), (1, 3)), ()]
        one, other = lamp_rows(EAST, plans), lamp_rows(EAST, tuple(plans))
        self.assertEqual(one, other)
        one.append(None)
        one[0] = None
        self.assertEqual(lamp_rows(EAST, plans), other)
        self.assertEqual(plans, [((0, 4), (1, 3)), ()])


class Judged(unittest.TestCase):
    def test_plans_one_behind_another(self):
        chance = random.Random(4)
        for crossing, plans in small_crossings(seed=3, most=400):
            for _ in range(5):
                some = [chance.choice(plans)[0] for _ in range(chance.randint(1, 6))]
                rows = lamp_rows(crossing, some)
                self.assertEqual(rows, [row for plan in some for row in plain_rows(crossing, plan)])
                self.assertIsNone(judge_lamps(crossing, rows))
                self.assertIsNone(plain_judge(crossing, rows))

    def test_the_longest_plans(self):
        for crossing, plans in small_crossings(seed=4, most=400):
            full = [plan for plan, need, _ in plans if need == crossing[2]]
            rows = lamp_rows(crossing, full[:20])
            self.assertIsNone(judge_lamps(crossing, rows))

    def test_rows_by_chance(self):
        chance = random.Random(5)
        faults = set()
        for many in range(1, 7):
            for _ in range(150):
                crossing = crossing_by_chance(chance, many, 12, most=4, share=chance.choice((0.1, 0.4, 1)))
                lit = chance.choice((0.1, 0.2, 0.5))
                rows = [tuple(i for i in range(many) if chance.random() < lit) for _ in range(chance.randint(0, 20))]
                if chance.random() < 0.7:
                    rows = [row if not any(do_cross(crossing, i, j) for i in row for j in row) else () for row in rows]
                told = judge_lamps(crossing, rows)
                faults.add(told and told[0])
                self.assertTrue(same(told, plain_judge(crossing, rows)), (crossing, rows))
                self.assertTrue(same(judge_lamps(crossing, tuple(rows)), told))
        self.assertEqual(faults, {None, "crossed", "early"})

    def test_just_enough_ticks(self):
        crossing = (((0, None), (1, None)), ((0, 1, 2, 0),), 12)
        for rows, fault in (([(0,), (), (), (1,)], None), ([(0,), (), (1,)], ("early", 2, 0, 1)),
                            ([(0,), (1,)], ("early", 1, 0, 1)), ([(1,), (0,)], None),
                            ([(1,), (0,), (1,)], ("early", 2, 0, 1)), ([(0,), (), (), (1,), (1,)], None), ([], None),
                            ([(1,), (1,)], None), ([(0,), (0, 1), ()], ("crossed", 1, 0, 1)),
                            ([(0, 1)], ("crossed", 0, 0, 1)), ([(0,), (), (1,), (0, 1)], ("crossed", 3, 0, 1))):
            self.assertEqual(judge_lamps(crossing, rows), fault, rows)

    def test_the_least_of_a_tick(self):
        moves = tuple((q, None) for q in range(4))
        crossing = (moves, ((0, 2, 3, 3), (0, 3, 3, 3), (1, 2, 3, 3), (1, 3, 3, 3)), 12)
        self.assertEqual(judge_lamps(crossing, [(0, 1), (2, 3)]), ("early", 1, 0, 2))
        self.assertEqual(judge_lamps(crossing, [(2, 3), (0, 1)]), ("early", 1, 2, 0))
        self.assertEqual(judge_lamps(crossing, [(1,), (), (3,)]), ("early", 2, 1, 3))
        self.assertEqual(judge_lamps(crossing, [(), (0, 1, 2, 3)]), ("crossed", 1, 0, 2))
        self.assertEqual(judge_lamps(crossing, [(), (1, 2, 3)]), ("crossed", 1, 1, 2))


if __name__ == "__main__":
    unittest.main()
