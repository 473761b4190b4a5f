"""[1.3], [1.4]: stages, clearings, covers and hands."""

import random
import unittest

from greenheld.stages import (clear_ticks, clearings, greatest_hand, is_stage, judge_cover, least_cover,
                              shares_of_cover, stages)
from greenheld.towns import clearance, do_cross
from tests.support import EAST, ODD_VALUES, crossing_by_chance, plain_int, same, subsets, within


def crossings(seed=1):
    """Crossings of one to six movements by chance, and some where none cross, or all."""
    chance = random.Random(seed)
    found = [crossing_by_chance(chance, many, 12, most=30, share=share)
             for many in range(1, 7) for share in (0, 0.2, 0.5, 0.8, 1) for _ in range(4)]
    triangles = tuple((i, j, 1, 2) for i, j in ((0, 1), (0, 2), (1, 2), (3, 4), (3, 5), (4, 5)))
    return found + [EAST, (tuple((q, None) for q in range(6)), triangles, 12)]


def crossed_pairs(crossing):
    return {frozenset(row[:2]) for row in crossing[1]}


def plain_stages(crossing):
    """All stages, by trying all lots of movements."""
    pairs = crossed_pairs(crossing)
    free = [set(some) for some in subsets(len(crossing[0])) if not any(pair <= set(some) for pair in pairs)]
    return tuple(sorted(tuple(sorted(some)) for some in free if not any(some < other for other in free)))


class Stages(unittest.TestCase):
    def test_all_lots_tried(self):
        for crossing in crossings():
            self.assertTrue(same(stages(crossing), plain_stages(crossing)), crossing)

    def test_none_cross_or_all(self):
        free, full = (tuple((q, None) for q in range(6)), (), 12), crossing_by_chance(random.Random(1), 6, 12, share=2)
        self.assertEqual(stages(free), ((0, 1, 2, 3, 4, 5),))
        self.assertEqual(stages(full), ((0,), (1,), (2,), (3,), (4,), (5,)))
        self.assertEqual(stages((((0, None),), (), 1)), ((0,),))

    def test_a_little_more_than_six(self):
        chance = random.Random(3)
        for many in (7, 8, 9):
            crossing = crossing_by_chance(chance, many, 12)
            self.assertEqual(stages(crossing), plain_stages(crossing))

    def test_is_stage(self):
        for crossing in crossings(2):
            told = plain_stages(crossing)
            for some in subsets(len(crossing[0])):
                self.assertIs(is_stage(crossing, some), some in told)
            for value in list(ODD_VALUES) + [value for stage in told[:3] for value in within(stage)]:
                self.assertIs(is_stage(crossing, value), any(same(value, stage) for stage in told), value)

    def test_true_is_no_movement(self):
        self.assertEqual([is_stage(EAST, value) for value in ((0,), (False,), (1, 2), (True, 2), [1, 2], (2, 1), (1, 2, 2))],
                         [True, False, True, False, False, False, False])

    def test_clearings(self):
        for crossing in crossings(4):
            told = []
            for s, stage in enumerate(plain_stages(crossing)):
                most = 0
                for i, j, ahead, behind in crossing[1]:
                    most = max([most] + [ahead] * (i in stage) + [behind] * (j in stage))
                told.append(most)
                self.assertEqual(clear_ticks(crossing, s), most)
            self.assertEqual(clearings(crossing), tuple(told))

    def test_clearings_of_0_and_of_30(self):
        moves = ((0, None), (1, None), (2, None))
        self.assertEqual([clear_ticks((moves, ((0, 1, 0, 30),), 12), s) for s in range(2)], [0, 30])
        self.assertEqual(clear_ticks((moves, (), 12), 0), 0)

    def test_behind_so_many_ticks_any_stage_may_follow(self):
        for crossing in crossings(5):
            for s, stage in enumerate(stages(crossing)):
                for i in stage:
                    for j in range(len(crossing[0])):
                        self.assertLessEqual(clearance(crossing, i, j), clear_ticks(crossing, s))


class Covers(unittest.TestCase):
    def test_all_covers_tried(self):
        for crossing in crossings(6):
            told = plain_stages(crossing)
            full = set(range(len(crossing[0])))
            covers = [some for some in subsets(len(told)) if {i for s in some for i in told[s]} == full]
            fewest = min(len(some) for some in covers)
            self.assertTrue(same(least_cover(crossing), min(some for some in covers if len(some) == fewest)))
            for some in subsets(len(told)):
                left = full - {i for s in some for i in told[s]}
                self.assertEqual(judge_cover(crossing, some), ("movement", min(left)) if left else None)

    def test_all_hands_tried(self):
        for crossing in crossings(7):
            pairs = crossed_pairs(crossing)
            hands = [some for some in subsets(len(crossing[0]))
                     if all(frozenset((i, j)) in pairs for i in some for j in some if i < j)]
            most = max(len(some) for some in hands)
            self.assertTrue(same(greatest_hand(crossing), min(some for some in hands if len(some) == most)))
            self.assertEqual(shares_of_cover(crossing), (least_cover(crossing), greatest_hand(crossing)))
            self.assertLessEqual(most, len(least_cover(crossing)))
            for i in greatest_hand(crossing):
                self.assertTrue(all(do_cross(crossing, i, j) for j in greatest_hand(crossing) if j != i))

    def test_five_in_a_ring(self):
        ring = (tuple((q, None) for q in range(5)),
                ((0, 1, 1, 1), (0, 4, 1, 1), (1, 2, 1, 1), (2, 3, 1, 1), (3, 4, 1, 1)), 12)
        self.assertEqual(stages(ring), ((0, 2), (0, 3), (1, 3), (1, 4), (2, 4)))
        self.assertEqual(shares_of_cover(ring), ((0, 1, 3), (0, 1)))

    def test_wrong_covers(self):
        self.assertEqual([judge_cover(EAST, value) for value in ((0, 1), (0,), (1,), (), (0, 0, 1), (1, 0), (0, 2),
                                                                 (-1, 0), [0, 1], (False, 1), (0, True), None)],
                         [None, ("movement", 1), ("movement", 0), ("movement", 0)] + [("form",)] * 8)

    def test_any_value(self):
        for crossing in crossings(8)[::5]:
            told = plain_stages(crossing)
            full = set(range(len(crossing[0])))
            for value in list(ODD_VALUES) + within(least_cover(crossing)):
                right = type(value) is tuple and all(plain_int(s) and 0 <= s < len(told) for s in value)
                if not right or list(value) != sorted(set(value)):
                    fault = ("form",)
                else:
                    left = full - {i for s in value for i in told[s]}
                    fault = ("movement", min(left)) if left else None
                self.assertTrue(same(judge_cover(crossing, value), fault), value)


if __name__ == "__main__":
    unittest.main()
